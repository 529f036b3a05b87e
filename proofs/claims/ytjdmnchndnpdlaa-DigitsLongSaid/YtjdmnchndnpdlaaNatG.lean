import Derived.Test.YtjdmnchndnpdlaaNatB
import Derived.Deep.LoopGhost
namespace Go.Proofs.Ytjdmnchndnpdlaa
open Go.RowKit
set_option maxRecDepth 100000

/-- A slice of numbers: what each is. -/
structure RdN (w : World) (ad : Option Addr) (vs : List Value) (ns : List Nat) : Prop where
  len : ns.length = vs.length
  cell : ∀ i, i < vs.length → ∃ b off, ad = some ⟨b, off, none⟩ ∧ b < w.heap.size ∧ w.cell? ⟨b, off + i, none⟩ = some (vs.getD i undef) ∧ Nt w (vs.getD i undef) (lg ns i)
theorem RdN.below {w w' : World} {ad : Option Addr} {vs : List Value} {ns : List Nat} (h : RdN w ad vs ns) (hb : Below w.heap.size w w') : RdN w' ad vs ns := by
  refine ⟨h.len, fun i hi => ?_⟩
  obtain ⟨b, off, ha, hlt, hc, hn⟩ := h.cell i hi
  exact ⟨b, off, ha, Nat.lt_of_lt_of_le hlt hb.size, by rw [hb.cell (p := ⟨b, off + i, none⟩) hlt]; exact hc, hn.below hb⟩

theorem RdN.two {w : World} {v1 v2 : Value} {a b : Nat} (T : TypeId) (h1 : Nt w v1 a) (h2 : Nt w v2 b) : RdN (w.alloc (.cells #[v1, v2] T)) (some ⟨w.heap.size, 0, none⟩) [v1, v2] [a, b] := by
  have hb := (Below.refl w.heap.size w).alloc (Nat.le_refl _) (.cells #[v1, v2] T)
  have hg := heap_alloc_new w (.cells #[v1, v2] T)
  refine ⟨rfl, fun i hi => ⟨w.heap.size, 0, rfl, by simp, ?_, ?_⟩⟩
  · rw [Nat.zero_add, cell_of_row _ w.heap.size i #[v1, v2] T (0, 0) hg]
    match i, hi with
    | 0, _ => rfl
    | 1, _ => rfl
  · match i, hi with
    | 0, _ => exact h1.below hb
    | 1, _ => exact h2.below hb
theorem RdN.three {w : World} {v1 v2 v3 : Value} {a b c : Nat} (T : TypeId) (h1 : Nt w v1 a) (h2 : Nt w v2 b) (h3 : Nt w v3 c) : RdN (w.alloc (.cells #[v1, v2, v3] T)) (some ⟨w.heap.size, 0, none⟩) [v1, v2, v3] [a, b, c] := by
  have hb := (Below.refl w.heap.size w).alloc (Nat.le_refl _) (.cells #[v1, v2, v3] T)
  have hg := heap_alloc_new w (.cells #[v1, v2, v3] T)
  refine ⟨rfl, fun i hi => ⟨w.heap.size, 0, rfl, by simp, ?_, ?_⟩⟩
  · rw [Nat.zero_add, cell_of_row _ w.heap.size i #[v1, v2, v3] T (0, 0) hg]
    match i, hi with
    | 0, _ => rfl
    | 1, _ => rfl
    | 2, _ => rfl
  · match i, hi with
    | 0, _ => exact h1.below hb
    | 1, _ => exact h2.below hb
    | 2, _ => exact h3.below hb

theorem sum_take_succ {ns : List Nat} {k : Nat} (h : k < ns.length) : (ns.take (k + 1)).sum = (ns.take k).sum + lg ns k := by
  rw [take_succ_lg h]; simp
theorem sum_take_le (ns : List Nat) (k : Nat) : (ns.take k).sum ≤ ns.sum := by
  have := List.take_append_drop k ns
  have h2 : (ns.take k ++ ns.drop k).sum = ns.sum := by rw [this]
  rw [List.sum_append] at h2
  omega

def SumInv (w : World) (ns : List Nat) (s i : Value) (wr : World) : Prop :=
  ∃ k : Nat, k ≤ ns.length ∧ i = .int .i64 k ∧ Dg wr .u32 B32 s (ns.take k).sum ∧ Below w.heap.size w wr

set_option maxHeartbeats 1000000 in
theorem sum_any (ad : Option Addr) (n cap : Nat) (vs : List Value) (ns : List Nat) (w : World) (hn : n = vs.length) (hr : RdN w ad vs ns) (hb : dl B32 ns.sum ≤ 1099511627776) (hl : vs.length ≤ 1099511627776) :
    Calls Try.prog 14 #[.slice ad n cap] w (DgPost w ns.sum) := by
  have hlen := hr.len
  have HL := Lib.hid hlen
  have HN := Lib.hid hn
  have hnl : n ≤ 1099511627776 := by omega
  clear hn hlen
  go_enter Try.func14, Try.ntmps14
  go_wp2
  go_loopw [3, 9] (fun s i wr => SumInv w ns s i wr) (fun _ i _ => n - (intOf i).toNat)
  case atStart =>
    exact ⟨0, Nat.zero_le _, rfl, Dg.zero _ _ _ _ (by unfold maxLen; omega) (fun h => by cases h), (Below.refl _ _).alloc (Nat.le_refl _) _⟩
  case round =>
    obtain ⟨k, hk, rfl, hs, hbe⟩ := hrel
    by_cases hlt : k < n
    · obtain ⟨b, off, rfl, hbs, hc, hnt⟩ := (hr.below hbe).cell k (by rw [← HN.out]; exact hlt)
      obtain ⟨vk, hvk⟩ : ∃ vk, vk = vs.getD k undef := ⟨_, rfl⟩
      rw [← hvk] at hc hnt
      clear hvk
      have hsum := Lib.hid (sum_take_succ (ns := ns) (k := k) (by rw [HL.out, ← HN.out]; exact hlt))
      have hle := sum_take_le ns (k + 1)
      rw [hsum.out] at hle
      have hdl : dl B32 ((ns.take k).sum + lg ns k) ≤ 1099511627776 := Nat.le_trans (dl_mono B32_two hle) hb
      have HR := Lib.hid hr
      clear hr
      go_wp2_with (go_at_call 44; refine (add_any _ _ _ _ _ hs.nt hnt hdl).mono ?_; rintro e w1 ⟨v1, rfl, hd1, hb1⟩)
      go_roundw
      case rel => exact ⟨k + 1, by rw [HL.out, ← HN.out]; omega, by go_num, by rw [hsum.out]; exact hd1, hbe.trans (hb1.mono hbe.size)⟩
      case measure => simp [intOf]; omega
    · clear hr
      go_wp2
      go_ret
      have hkl : k = ns.length := by rw [HL.out, ← HN.out] at hk ⊢; omega
      rw [hkl, List.take_length] at hs
      exact ⟨_, rfl, hs, hbe⟩
end Go.Proofs.Ytjdmnchndnpdlaa
