/- Contract of mult.Product. -/
import Derived.Test.YtbjgcnhilakimaaMulA
import Derived.Test.YtbjgcnhilakimaaNatG
namespace Go.Proofs.Ytbjgcnhilakimaa
open Go.RowKit
set_option maxRecDepth 100000

/-- The product of numbers. -/
def pl (ns : List Nat) : Nat := ns.foldl (· * ·) 1
theorem pl_snoc (ns : List Nat) (x : Nat) : pl (ns ++ [x]) = pl ns * x := by simp [pl]
theorem pl_take_succ {ns : List Nat} {k : Nat} (h : k < ns.length) : pl (ns.take (k + 1)) = pl (ns.take k) * lg ns k := by
  rw [take_succ_lg h, pl_snoc]

def ProdInv (w : World) (ns : List Nat) (s i : Value) (wr : World) : Prop :=
  ∃ k, k ≤ ns.length ∧ i = .int .i64 (k : Nat) ∧ Dg wr .u32 B32 s (pl (ns.take k)) ∧ Below w.heap.size w wr

set_option maxHeartbeats 1000000 in
theorem product_any (ad : Option Addr) (n cap : Nat) (vs : List Value) (ns : List Nat) (w : World) (hn : n = vs.length) (hr : RdN w ad vs ns) (hp : ∀ k, k ≤ ns.length → dl B32 (pl (ns.take k)) ≤ 1000000) (hb : ∀ k, k < ns.length → dl B32 (lg ns k) ≤ 1000000) (hl : vs.length ≤ 1099511627776) :
    Calls Try.prog 56 #[.slice ad n cap] w (DgPost w (pl ns)) := by
  have hlen := hr.len
  have HL := Lib.hid hlen
  have HN := Lib.hid hn
  have HP := Lib.hid hp
  have HB := Lib.hid hb
  have hnl : n ≤ 1099511627776 := by omega
  clear hn hlen hp hb
  go_enter Try.func56, Try.ntmps56
  go_wp2_with fail
  refine (of_any 1 w (by omega)).mono ?_
  rintro e w1 ⟨v1, rfl, hd1, hb1⟩
  have hr := hr.below hb1
  have HB1 := Lib.hid hb1
  have hd1' : Hid (Dg w1 .u32 B32 v1 (pl (ns.take 0))) := hd1
  clear hb1 hd1
  go_wp2
  go_loopw [3, 9] (fun s i wr => ProdInv w1 ns s i wr) (fun _ i _ => n - (intOf i).toNat)
  case atStart =>
    exact ⟨0, Nat.zero_le _, rfl, hd1'.out, Below.refl _ _⟩
  case round =>
    obtain ⟨k, hk, rfl, hs, hbe⟩ := hrel
    by_cases hlt : k < n
    · obtain ⟨b, off, rfl, hbs, hc, hnt⟩ := (hr.below hbe).cell k (by rw [← HN.out]; exact hlt)
      obtain ⟨vk, hvk⟩ : ∃ vk, vk = vs.getD k undef := ⟨_, rfl⟩
      rw [← hvk] at hc hnt
      clear hvk
      have hkn : Hid (k < ns.length) := by unfold Hid; rw [HL.out, ← HN.out]; exact hlt
      have hsum := Lib.hid (pl_take_succ hkn.out)
      have HR := Lib.hid hr
      clear hr
      go_wp2_with (go_at_call 48; refine (mul_any _ _ _ _ _ hs.nt hnt (HP.out k (Nat.le_of_lt hkn.out)) (HB.out k hkn.out)).mono ?_; rintro e w2 ⟨v2, rfl, hd2, hb2⟩)
      go_roundw
      case rel => exact ⟨k + 1, hkn.out, by go_num, by rw [hsum.out]; exact hd2, hbe.trans (hb2.mono hbe.size)⟩
      case measure => simp [intOf]; omega
    · clear hr
      go_wp2
      go_ret
      have hkl : k = ns.length := by rw [HL.out, ← HN.out] at hk ⊢; omega
      rw [hkl, List.take_length] at hs
      exact ⟨_, rfl, hs, HB1.out.trans (hbe.mono HB1.out.size)⟩
end Go.Proofs.Ytbjgcnhilakimaa
