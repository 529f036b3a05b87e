/- whole.Mul. -/
import Derived.Test.YtjdmnchndnpdlaaGE
import Derived.Test.YtjdmnchndnpdlaaGM
import Derived.Deep.RegionHeld3
namespace Go.Proofs.Ytjdmnchndnpdlaa
open Go.RowKit
set_option maxRecDepth 100000

theorem sg_mul (b c : Bool) (N M : Nat) : sg (!(b == c)) (N * M) = sg b N * sg c M := by
  cases b <;> cases c <;> simp [sg, Int.mul_neg, Int.neg_mul]

set_option maxHeartbeats 1000000 in
theorem whMul_any (v1 v2 : Value) (z1 z2 : Int) (a b : Nat) (w : World) (h1 : Wz w v1 z1) (h2 : Wz w v2 z2) (l1 : Lim z1.natAbs a) (l2 : Lim z2.natAbs b) (ha : a ≤ 1000000) (hb : b ≤ 1000000) :
    Calls Try.prog 94 #[v1, v2] w (WcPost w (z1 * z2)) := by
  obtain ⟨neg1, ad1, n1, cap1, N1, rfl, hN1, rfl⟩ := h1.shape
  obtain ⟨neg2, ad2, n2, cap2, N2, rfl, hN2, rfl⟩ := h2.shape
  have hb0 := (((Below.refl w.heap.size w).alloc (Nat.le_refl _) (.cells #[.bool neg1, .slice ad1 n1 cap1] 37)).alloc (by simp) (.cells #[.bool neg2, .slice ad2 n2 cap2] 37)).alloc (by simp; omega) (.cells #[.bool false, .slice none 0 0] 37)
  rw [sg_natAbs] at l1 l2
  have bd : Below (((w.alloc (.cells #[.bool neg1, .slice ad1 n1 cap1] 37)).alloc (.cells #[.bool neg2, .slice ad2 n2 cap2] 37)).alloc (.cells #[.bool false, .slice none 0 0] 37)).heap.size (((w.alloc (.cells #[.bool neg1, .slice ad1 n1 cap1] 37)).alloc (.cells #[.bool neg2, .slice ad2 n2 cap2] 37)).alloc (.cells #[.bool false, .slice none 0 0] 37)) (((w.alloc (.cells #[.bool neg1, .slice ad1 n1 cap1] 37)).alloc (.cells #[.bool neg2, .slice ad2 n2 cap2] 37)).alloc (.cells #[.bool false, .slice none 0 0] 37)).drew := (Below.refl _ _).drew
  have hN1' := (hN1.below hb0).below bd
  have hN2' := (hN2.below hb0).below bd
  have ES := Lib.hid (sg_mul neg1 neg2 N1 N2)
  have c00 : (w.alloc (.cells #[.bool neg1, .slice ad1 n1 cap1] 37)).cell? ⟨w.heap.size, 0, none⟩ = some (.bool neg1) := by simp
  replace c00 := (World.cell?_alloc_old (w.alloc (.cells #[.bool neg1, .slice ad1 n1 cap1] 37)) (.cells #[.bool neg2, .slice ad2 n2 cap2] 37) ⟨w.heap.size, 0, none⟩ (by first | (simp; done) | (simp; omega))).trans c00
  replace c00 := (World.cell?_alloc_old ((w.alloc (.cells #[.bool neg1, .slice ad1 n1 cap1] 37)).alloc (.cells #[.bool neg2, .slice ad2 n2 cap2] 37)) (.cells #[.bool false, .slice none 0 0] 37) ⟨w.heap.size, 0, none⟩ (by first | (simp; done) | (simp; omega))).trans c00
  have c01 : (w.alloc (.cells #[.bool neg1, .slice ad1 n1 cap1] 37)).cell? ⟨w.heap.size, 1, none⟩ = some (.slice ad1 n1 cap1) := by simp
  replace c01 := (World.cell?_alloc_old (w.alloc (.cells #[.bool neg1, .slice ad1 n1 cap1] 37)) (.cells #[.bool neg2, .slice ad2 n2 cap2] 37) ⟨w.heap.size, 1, none⟩ (by first | (simp; done) | (simp; omega))).trans c01
  replace c01 := (World.cell?_alloc_old ((w.alloc (.cells #[.bool neg1, .slice ad1 n1 cap1] 37)).alloc (.cells #[.bool neg2, .slice ad2 n2 cap2] 37)) (.cells #[.bool false, .slice none 0 0] 37) ⟨w.heap.size, 1, none⟩ (by first | (simp; done) | (simp; omega))).trans c01
  have c10 : ((w.alloc (.cells #[.bool neg1, .slice ad1 n1 cap1] 37)).alloc (.cells #[.bool neg2, .slice ad2 n2 cap2] 37)).cell? ⟨(w.heap.size + 1), 0, none⟩ = some (.bool neg2) := by simp
  replace c10 := (World.cell?_alloc_old ((w.alloc (.cells #[.bool neg1, .slice ad1 n1 cap1] 37)).alloc (.cells #[.bool neg2, .slice ad2 n2 cap2] 37)) (.cells #[.bool false, .slice none 0 0] 37) ⟨(w.heap.size + 1), 0, none⟩ (by first | (simp; done) | (simp; omega))).trans c10
  have c11 : ((w.alloc (.cells #[.bool neg1, .slice ad1 n1 cap1] 37)).alloc (.cells #[.bool neg2, .slice ad2 n2 cap2] 37)).cell? ⟨(w.heap.size + 1), 1, none⟩ = some (.slice ad2 n2 cap2) := by simp
  replace c11 := (World.cell?_alloc_old ((w.alloc (.cells #[.bool neg1, .slice ad1 n1 cap1] 37)).alloc (.cells #[.bool neg2, .slice ad2 n2 cap2] 37)) (.cells #[.bool false, .slice none 0 0] 37) ⟨(w.heap.size + 1), 1, none⟩ (by first | (simp; done) | (simp; omega))).trans c11
  have hne : w.heap.size + 1 + 1 ≠ w.heap.size := by omega
  have L1 := Lib.hid (l1.dl _ ha); have L2 := Lib.hid (l2.dl _ hb)
  go_enter Try.func94, Try.ntmps94
  go_wp2
  go_region_held3 (fun w' => w'.cell? ⟨w.heap.size, 0, none⟩ = some (.bool neg1) ∧ w'.cell? ⟨w.heap.size, 1, none⟩ = some (.slice ad1 n1 cap1) ∧ w'.cell? ⟨(w.heap.size + 1), 0, none⟩ = some (.bool neg2) ∧ w'.cell? ⟨(w.heap.size + 1), 1, none⟩ = some (.slice ad2 n2 cap2)) (first | exact ⟨s00, s01, s10, s11⟩ | go_keep)
    (first
    | (go_at_call 68; refine (mul_any _ _ N1 N2 _ hN1' hN2' L1.out L2.out).mono ?_; rintro e w1 ⟨v3, rfl, d3, b1⟩; have bel := bd.trans b1; have s00 := (bel.cell (p := ⟨w.heap.size, 0, none⟩) (by first | (simp; done) | (simp; omega))).trans c00; have s01 := (bel.cell (p := ⟨w.heap.size, 1, none⟩) (by first | (simp; done) | (simp; omega))).trans c01; have s10 := (bel.cell (p := ⟨(w.heap.size + 1), 0, none⟩) (by first | (simp; done) | (simp; omega))).trans c10; have s11 := (bel.cell (p := ⟨(w.heap.size + 1), 1, none⟩) (by first | (simp; done) | (simp; omega))).trans c11)
    | (go_at_call 81; refine (signed_any _ _ _ _ d3).mono ?_; rintro e w2 ⟨v9, rfl, h9, b2⟩; rw [ES.out] at h9; replace bel := below_to bel b2; clear s00 s01 s10 s11; have s00 := (bel.cell (p := ⟨w.heap.size, 0, none⟩) (by first | (simp; done) | (simp; omega))).trans c00; have s01 := (bel.cell (p := ⟨w.heap.size, 1, none⟩) (by first | (simp; done) | (simp; omega))).trans c01; have s10 := (bel.cell (p := ⟨(w.heap.size + 1), 0, none⟩) (by first | (simp; done) | (simp; omega))).trans c10; have s11 := (bel.cell (p := ⟨(w.heap.size + 1), 1, none⟩) (by first | (simp; done) | (simp; omega))).trans c11; obtain ⟨hc, hf⟩ := bcell bel; obtain ⟨b9, ad9, n9, cap9, rfl⟩ := h9.form))
  have ni9 : NoInt (((w.alloc (.cells #[.bool neg1, .slice ad1 n1 cap1] 37)).alloc (.cells #[.bool neg2, .slice ad2 n2 cap2] 37)).alloc (.cells #[.bool false, .slice none 0 0] 37)) (w.heap.size + 2) := by
    have k0 := NoInt.box (w := ((w.alloc (.cells #[.bool neg1, .slice ad1 n1 cap1] 37)).alloc (.cells #[.bool neg2, .slice ad2 n2 cap2] 37))) (l := [.bool false, .slice none 0 0]) (T := 37) (by simp [notInt_bool, notInt_slice])
    have e0 : ((w.alloc (.cells #[.bool neg1, .slice ad1 n1 cap1] 37)).alloc (.cells #[.bool neg2, .slice ad2 n2 cap2] 37)).heap.size = (w.heap.size + 2) := by simp
    rw [e0] at k0
    exact k0
  obtain ⟨bel9, kp⟩ := store2 hb0 (by omega) (by simp) ni9 bel (.bool b9) (.slice ad9 n9 cap9) (notInt_bool _)
  go_wp2
  exact bodyPost_ret (by simp [results, Try.results94, go_sem, hc]) rfl ⟨_, rfl, kp.wc h9, bel9⟩
end Go.Proofs.Ytjdmnchndnpdlaa
