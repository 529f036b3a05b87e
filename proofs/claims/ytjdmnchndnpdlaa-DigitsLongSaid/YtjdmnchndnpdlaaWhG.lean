/- whole.DivMod. -/
import Derived.Test.YtjdmnchndnpdlaaWhF
import Derived.Test.YtjdmnchndnpdlaaGDc
import Derived.Deep.RegionHeld3
namespace Go.Proofs.Ytjdmnchndnpdlaa
open Go.RowKit
set_option maxRecDepth 100000

def WdPost (w : World) (z1 z2 : Int) (e : Ending) (w' : World) : Prop := ∃ v1 v2, e = .returned (.tuple #[v1, v2]) ∧ Wc w' v1 (z1.fdiv z2) ∧ Wc w' v2 (fr z1 z2) ∧ Below w.heap.size w w'
theorem NoInt.far {w : World} {g h : Nat} (h1 : NoInt w g) (hne : h ≠ g) (i : Nat) (u : Value) : NoInt (w.setCell ⟨h, i, none⟩ u) g := by
  intro j k n
  rw [World.cell?_setCell_other _ _ _ _ (by intro e; apply hne; injection e)]
  exact h1 j k n
theorem store4 {w W0 w2 : World} {g h : Nat} (hw : Below w.heap.size w W0) (hg : w.heap.size ≤ g) (hh : w.heap.size ≤ h) (hg2 : g < W0.heap.size) (hh2 : h < W0.heap.size) (hne : g ≠ h) (hn : NoInt W0 g) (hn' : NoInt W0 h) (b3 : Below W0.heap.size W0 w2) (u v x y : Value) (nu : notInt u) (nx : notInt x) :
    Below w.heap.size w ((((w2.setCell ⟨g, 0, none⟩ u).setCell ⟨g, 1, none⟩ v).setCell ⟨h, 0, none⟩ x).setCell ⟨h, 1, none⟩ y) ∧ Keep w2 ((((w2.setCell ⟨g, 0, none⟩ u).setCell ⟨g, 1, none⟩ v).setCell ⟨h, 0, none⟩ x).setCell ⟨h, 1, none⟩ y) := by
  have a1 := hn.below hg2 b3
  have a2 := hn'.below hh2 b3
  have a3 := (a2.far hne 0 u).far hne 1 v
  have hb : Below w.heap.size w w2 := hw.trans (b3.mono hw.size)
  exact ⟨(((hb.setCell (p := ⟨g, 0, none⟩) hg u).setCell (p := ⟨g, 1, none⟩) hg v).setCell (p := ⟨h, 0, none⟩) hh x).setCell (p := ⟨h, 1, none⟩) hh y,
    (((a1.keep 0 u).trans ((a1.setCell 0 nu).keep 1 v)).trans (a3.keep 0 x)).trans ((a3.setCell 0 nx).keep 1 y)⟩

set_option maxHeartbeats 2000000 in
theorem whDivMod_any (v1 v2 : Value) (z1 z2 : Int) (w : World) (h1 : Wz w v1 z1) (h2 : Wz w v2 z2) (a : Nat) (l1 : Lim z1.natAbs a) (ha : a ≤ 1000000) :
    Calls Try.prog 74 #[v1, v2] w (WdPost w z1 z2) := by
  obtain ⟨neg1, ad1, n1, cap1, N1, rfl, hN1, rfl⟩ := h1.shape
  obtain ⟨neg2, ad2, n2, cap2, N2, rfl, hN2, rfl⟩ := h2.shape
  have hb0 := ((((Below.refl w.heap.size w).alloc (Nat.le_refl _) (.cells #[.bool neg1, .slice ad1 n1 cap1] 37)).alloc (by simp) (.cells #[.bool neg2, .slice ad2 n2 cap2] 37)).alloc (by simp; omega) (.cells #[.bool false, .slice none 0 0] 37)).alloc (by simp; omega) (.cells #[.bool false, .slice none 0 0] 37)
  have hN1' := hN1.below hb0
  have hN2' := hN2.below hb0
  have c00 : (w.alloc (.cells #[.bool neg1, .slice ad1 n1 cap1] 37)).cell? ⟨w.heap.size, 0, none⟩ = some (.bool neg1) := by simp
  replace c00 := (World.cell?_alloc_old (w.alloc (.cells #[.bool neg1, .slice ad1 n1 cap1] 37)) (.cells #[.bool neg2, .slice ad2 n2 cap2] 37) ⟨w.heap.size, 0, none⟩ (by first | (simp; done) | (simp; omega))).trans c00
  replace c00 := (World.cell?_alloc_old ((w.alloc (.cells #[.bool neg1, .slice ad1 n1 cap1] 37)).alloc (.cells #[.bool neg2, .slice ad2 n2 cap2] 37)) (.cells #[.bool false, .slice none 0 0] 37) ⟨w.heap.size, 0, none⟩ (by first | (simp; done) | (simp; omega))).trans c00
  replace c00 := (World.cell?_alloc_old (((w.alloc (.cells #[.bool neg1, .slice ad1 n1 cap1] 37)).alloc (.cells #[.bool neg2, .slice ad2 n2 cap2] 37)).alloc (.cells #[.bool false, .slice none 0 0] 37)) (.cells #[.bool false, .slice none 0 0] 37) ⟨w.heap.size, 0, none⟩ (by first | (simp; done) | (simp; omega))).trans c00
  have c01 : (w.alloc (.cells #[.bool neg1, .slice ad1 n1 cap1] 37)).cell? ⟨w.heap.size, 1, none⟩ = some (.slice ad1 n1 cap1) := by simp
  replace c01 := (World.cell?_alloc_old (w.alloc (.cells #[.bool neg1, .slice ad1 n1 cap1] 37)) (.cells #[.bool neg2, .slice ad2 n2 cap2] 37) ⟨w.heap.size, 1, none⟩ (by first | (simp; done) | (simp; omega))).trans c01
  replace c01 := (World.cell?_alloc_old ((w.alloc (.cells #[.bool neg1, .slice ad1 n1 cap1] 37)).alloc (.cells #[.bool neg2, .slice ad2 n2 cap2] 37)) (.cells #[.bool false, .slice none 0 0] 37) ⟨w.heap.size, 1, none⟩ (by first | (simp; done) | (simp; omega))).trans c01
  replace c01 := (World.cell?_alloc_old (((w.alloc (.cells #[.bool neg1, .slice ad1 n1 cap1] 37)).alloc (.cells #[.bool neg2, .slice ad2 n2 cap2] 37)).alloc (.cells #[.bool false, .slice none 0 0] 37)) (.cells #[.bool false, .slice none 0 0] 37) ⟨w.heap.size, 1, none⟩ (by first | (simp; done) | (simp; omega))).trans c01
  have c10 : ((w.alloc (.cells #[.bool neg1, .slice ad1 n1 cap1] 37)).alloc (.cells #[.bool neg2, .slice ad2 n2 cap2] 37)).cell? ⟨(w.heap.size + 1), 0, none⟩ = some (.bool neg2) := by simp
  replace c10 := (World.cell?_alloc_old ((w.alloc (.cells #[.bool neg1, .slice ad1 n1 cap1] 37)).alloc (.cells #[.bool neg2, .slice ad2 n2 cap2] 37)) (.cells #[.bool false, .slice none 0 0] 37) ⟨(w.heap.size + 1), 0, none⟩ (by first | (simp; done) | (simp; omega))).trans c10
  replace c10 := (World.cell?_alloc_old (((w.alloc (.cells #[.bool neg1, .slice ad1 n1 cap1] 37)).alloc (.cells #[.bool neg2, .slice ad2 n2 cap2] 37)).alloc (.cells #[.bool false, .slice none 0 0] 37)) (.cells #[.bool false, .slice none 0 0] 37) ⟨(w.heap.size + 1), 0, none⟩ (by first | (simp; done) | (simp; omega))).trans c10
  have c11 : ((w.alloc (.cells #[.bool neg1, .slice ad1 n1 cap1] 37)).alloc (.cells #[.bool neg2, .slice ad2 n2 cap2] 37)).cell? ⟨(w.heap.size + 1), 1, none⟩ = some (.slice ad2 n2 cap2) := by simp
  replace c11 := (World.cell?_alloc_old ((w.alloc (.cells #[.bool neg1, .slice ad1 n1 cap1] 37)).alloc (.cells #[.bool neg2, .slice ad2 n2 cap2] 37)) (.cells #[.bool false, .slice none 0 0] 37) ⟨(w.heap.size + 1), 1, none⟩ (by first | (simp; done) | (simp; omega))).trans c11
  replace c11 := (World.cell?_alloc_old (((w.alloc (.cells #[.bool neg1, .slice ad1 n1 cap1] 37)).alloc (.cells #[.bool neg2, .slice ad2 n2 cap2] 37)).alloc (.cells #[.bool false, .slice none 0 0] 37)) (.cells #[.bool false, .slice none 0 0] 37) ⟨(w.heap.size + 1), 1, none⟩ (by first | (simp; done) | (simp; omega))).trans c11
  have hne1 : w.heap.size + 1 + 1 ≠ w.heap.size := by omega
  have hne2 : w.heap.size + 1 + 1 + 1 ≠ w.heap.size := by omega
  have hne3 : w.heap.size + 1 + 1 + 1 ≠ w.heap.size + 1 := by omega
  have ni8 : NoInt ((((w.alloc (.cells #[.bool neg1, .slice ad1 n1 cap1] 37)).alloc (.cells #[.bool neg2, .slice ad2 n2 cap2] 37)).alloc (.cells #[.bool false, .slice none 0 0] 37)).alloc (.cells #[.bool false, .slice none 0 0] 37)) (w.heap.size + 2) := by
    have k0 := NoInt.box (w := ((w.alloc (.cells #[.bool neg1, .slice ad1 n1 cap1] 37)).alloc (.cells #[.bool neg2, .slice ad2 n2 cap2] 37))) (l := [.bool false, .slice none 0 0]) (T := 37) (by simp [notInt_bool, notInt_slice])
    have e0 : ((w.alloc (.cells #[.bool neg1, .slice ad1 n1 cap1] 37)).alloc (.cells #[.bool neg2, .slice ad2 n2 cap2] 37)).heap.size = (w.heap.size + 2) := by simp
    rw [e0] at k0
    replace k0 := k0.below (by simp) ((Below.refl _ _).alloc (Nat.le_refl _) (.cells #[.bool false, .slice none 0 0] 37))
    exact k0
  have ni9 : NoInt ((((w.alloc (.cells #[.bool neg1, .slice ad1 n1 cap1] 37)).alloc (.cells #[.bool neg2, .slice ad2 n2 cap2] 37)).alloc (.cells #[.bool false, .slice none 0 0] 37)).alloc (.cells #[.bool false, .slice none 0 0] 37)) (w.heap.size + 3) := by
    have k0 := NoInt.box (w := (((w.alloc (.cells #[.bool neg1, .slice ad1 n1 cap1] 37)).alloc (.cells #[.bool neg2, .slice ad2 n2 cap2] 37)).alloc (.cells #[.bool false, .slice none 0 0] 37))) (l := [.bool false, .slice none 0 0]) (T := 37) (by simp [notInt_bool, notInt_slice])
    have e0 : (((w.alloc (.cells #[.bool neg1, .slice ad1 n1 cap1] 37)).alloc (.cells #[.bool neg2, .slice ad2 n2 cap2] 37)).alloc (.cells #[.bool false, .slice none 0 0] 37)).heap.size = (w.heap.size + 3) := by simp
    rw [e0] at k0
    exact k0
  have HM := Lib.hid (divMod_any _ _ N1 N2 _ hN1' hN2')
  obtain ⟨R, hR⟩ : ∃ R, R = (if N2 = 0 then 0 else N1 % N2) := ⟨_, rfl⟩
  by_cases e : neg1 = neg2
  · subst e
    obtain ⟨f1, f2⟩ := fdm_same neg1 N1 N2
    rw [← hR] at f2
    have F1 := Lib.hid f1.symm; have F2 := Lib.hid f2.symm; have HR := Lib.hid hR
    clear f1 f2 hR
    go_enter Try.func74, Try.ntmps74
    go_wp2_with fail
    refine (HM.out).mono ?_
    rintro e w1 ⟨q, r, rfl, dq, dr, bb⟩
    replace hN2' := hN2'.below bb
    have bel := bb
    clear bb
    obtain ⟨hc, hf⟩ := bcell bel
    rw [← HR.out] at dr
    clear HM HR hN1'
    have s00 := (bel.cell (p := ⟨w.heap.size, 0, none⟩) (by first | (simp; done) | (simp; omega))).trans c00
    have s01 := (bel.cell (p := ⟨w.heap.size, 1, none⟩) (by first | (simp; done) | (simp; omega))).trans c01
    have s10 := (bel.cell (p := ⟨(w.heap.size + 1), 0, none⟩) (by first | (simp; done) | (simp; omega))).trans c10
    have s11 := (bel.cell (p := ⟨(w.heap.size + 1), 1, none⟩) (by first | (simp; done) | (simp; omega))).trans c11
    have DQ := Lib.hid dq; have DR := Lib.hid dr
    clear dq dr hN2'
    go_wp2_with fail
    go_region_held3 (fun w' => w'.cell? ⟨w.heap.size, 0, none⟩ = some (.bool neg1) ∧ w'.cell? ⟨w.heap.size, 1, none⟩ = some (.slice ad1 n1 cap1) ∧ w'.cell? ⟨(w.heap.size + 1), 0, none⟩ = some (.bool neg1) ∧ w'.cell? ⟨(w.heap.size + 1), 1, none⟩ = some (.slice ad2 n2 cap2)) (first | exact ⟨s00, s01, s10, s11⟩ | go_keep)
      (first
      | (go_at_call 81; have hd := DQ.out; refine (signed_any _ _ _ _ (hd.below (Below.refl _ _).drew)).mono ?_; rintro e wq ⟨v8, rfl, h8, b2⟩; clear hd DQ; rw [F1.out] at h8; replace bel := below_to bel ((Below.refl _ _).drew.trans b2); clear s00 s01 s10 s11; have s00 := (bel.cell (p := ⟨w.heap.size, 0, none⟩) (by first | (simp; done) | (simp; omega))).trans c00; have s01 := (bel.cell (p := ⟨w.heap.size, 1, none⟩) (by first | (simp; done) | (simp; omega))).trans c01; have s10 := (bel.cell (p := ⟨(w.heap.size + 1), 0, none⟩) (by first | (simp; done) | (simp; omega))).trans c10; have s11 := (bel.cell (p := ⟨(w.heap.size + 1), 1, none⟩) (by first | (simp; done) | (simp; omega))).trans c11; have DR2 := Lib.hid (DR.out.below ((Below.refl _ _).drew.trans b2)); clear DR; obtain ⟨hc8, hf8⟩ := bcell bel; obtain ⟨b8, ad8, n8, cap8, rfl⟩ := h8.form)
      | (go_at_call 81; have hd := DR2.out; refine (signed_any _ _ _ _ hd).mono ?_; rintro e wr ⟨v9, rfl, h9, b2⟩; clear hd DR2; rw [F2.out] at h9; replace bel := below_to bel b2; replace h8 := h8.below b2; clear s00 s01 s10 s11 hc8 hf8; have s00 := (bel.cell (p := ⟨w.heap.size, 0, none⟩) (by first | (simp; done) | (simp; omega))).trans c00; have s01 := (bel.cell (p := ⟨w.heap.size, 1, none⟩) (by first | (simp; done) | (simp; omega))).trans c01; have s10 := (bel.cell (p := ⟨(w.heap.size + 1), 0, none⟩) (by first | (simp; done) | (simp; omega))).trans c10; have s11 := (bel.cell (p := ⟨(w.heap.size + 1), 1, none⟩) (by first | (simp; done) | (simp; omega))).trans c11; obtain ⟨hc, hf⟩ := bcell bel; obtain ⟨b9, ad9, n9, cap9, rfl⟩ := h9.form))
    obtain ⟨bel9, kp⟩ := store4 hb0 (by omega) (by omega) (by simp) (by simp) (by omega) ni8 ni9 bel (.bool b8) (.slice ad8 n8 cap8) (.bool b9) (.slice ad9 n9 cap9) (notInt_bool _) (notInt_bool _)
    go_wp2
    exact bodyPost_ret (by simp [results, Try.results74, go_sem, hc]) rfl ⟨_, _, rfl, kp.wc h8, kp.wc h9, bel9⟩
  · obtain rfl : neg2 = !neg1 := by cases neg1 <;> cases neg2 <;> simp_all
    have hne : (neg1 == !neg1) = false := by cases neg1 <;> rfl
    clear e
    by_cases hz : R = 0
    · obtain ⟨f1, f2⟩ := fdm_zero neg1 N1 N2 (by rw [← hR]; exact hz)
      have F1 := Lib.hid f1.symm; have F2 := Lib.hid f2.symm; have HR := Lib.hid (hR.symm.trans hz)
      clear f1 f2 hR hz
      go_enter Try.func74, Try.ntmps74
      go_wp2_with fail
      refine (HM.out).mono ?_
      rintro e w1 ⟨q, r, rfl, dq, dr, bb⟩
      replace hN2' := hN2'.below bb
      have bel := bb
      clear bb
      obtain ⟨hc, hf⟩ := bcell bel
      rw [HR.out] at dr
      clear HM HR hN1'
      have hnil : ∃ ad cap, r = .slice ad 0 cap := by
        obtain ⟨ad, cap, k1, _⟩ := dr
        rw [dg_zero] at k1
        exact ⟨ad, cap, k1⟩
      obtain ⟨ad7, cap7, rfl⟩ := hnil
      have s00 := (bel.cell (p := ⟨w.heap.size, 0, none⟩) (by first | (simp; done) | (simp; omega))).trans c00
      have s01 := (bel.cell (p := ⟨w.heap.size, 1, none⟩) (by first | (simp; done) | (simp; omega))).trans c01
      have s10 := (bel.cell (p := ⟨(w.heap.size + 1), 0, none⟩) (by first | (simp; done) | (simp; omega))).trans c10
      have s11 := (bel.cell (p := ⟨(w.heap.size + 1), 1, none⟩) (by first | (simp; done) | (simp; omega))).trans c11
      have DQ := Lib.hid dq; have DR := Lib.hid dr
      clear dq dr hN2'
      go_wp2_with fail
      go_region_held3 (fun w' => w'.cell? ⟨w.heap.size, 0, none⟩ = some (.bool neg1) ∧ w'.cell? ⟨w.heap.size, 1, none⟩ = some (.slice ad1 n1 cap1) ∧ w'.cell? ⟨(w.heap.size + 1), 0, none⟩ = some (.bool (!neg1)) ∧ w'.cell? ⟨(w.heap.size + 1), 1, none⟩ = some (.slice ad2 n2 cap2)) (first | exact ⟨s00, s01, s10, s11⟩ | go_keep)
        (first
        | (go_at_call 81; have hd := DQ.out; refine (signed_any _ _ _ _ (hd.below (Below.refl _ _).drew)).mono ?_; rintro e wq ⟨v8, rfl, h8, b2⟩; clear hd DQ; rw [F1.out] at h8; replace bel := below_to bel ((Below.refl _ _).drew.trans b2); clear s00 s01 s10 s11; have s00 := (bel.cell (p := ⟨w.heap.size, 0, none⟩) (by first | (simp; done) | (simp; omega))).trans c00; have s01 := (bel.cell (p := ⟨w.heap.size, 1, none⟩) (by first | (simp; done) | (simp; omega))).trans c01; have s10 := (bel.cell (p := ⟨(w.heap.size + 1), 0, none⟩) (by first | (simp; done) | (simp; omega))).trans c10; have s11 := (bel.cell (p := ⟨(w.heap.size + 1), 1, none⟩) (by first | (simp; done) | (simp; omega))).trans c11; have DR2 := Lib.hid (DR.out.below ((Below.refl _ _).drew.trans b2)); clear DR; obtain ⟨hc8, hf8⟩ := bcell bel; obtain ⟨b8, ad8, n8, cap8, rfl⟩ := h8.form)
        | (go_at_call 81; have hd := DR2.out; refine (signed_any _ _ _ _ hd).mono ?_; rintro e wr ⟨v9, rfl, h9, b2⟩; clear hd DR2; rw [F2.out] at h9; replace bel := below_to bel b2; replace h8 := h8.below b2; clear s00 s01 s10 s11 hc8 hf8; have s00 := (bel.cell (p := ⟨w.heap.size, 0, none⟩) (by first | (simp; done) | (simp; omega))).trans c00; have s01 := (bel.cell (p := ⟨w.heap.size, 1, none⟩) (by first | (simp; done) | (simp; omega))).trans c01; have s10 := (bel.cell (p := ⟨(w.heap.size + 1), 0, none⟩) (by first | (simp; done) | (simp; omega))).trans c10; have s11 := (bel.cell (p := ⟨(w.heap.size + 1), 1, none⟩) (by first | (simp; done) | (simp; omega))).trans c11; obtain ⟨hc, hf⟩ := bcell bel; obtain ⟨b9, ad9, n9, cap9, rfl⟩ := h9.form))
      obtain ⟨bel9, kp⟩ := store4 hb0 (by omega) (by omega) (by simp) (by simp) (by omega) ni8 ni9 bel (.bool b8) (.slice ad8 n8 cap8) (.bool b9) (.slice ad9 n9 cap9) (notInt_bool _) (notInt_bool _)
      go_wp2
      exact bodyPost_ret (by simp [results, Try.results74, go_sem, hc]) rfl ⟨_, _, rfl, kp.wc h8, kp.wc h9, bel9⟩
    · obtain ⟨f1, f2⟩ := fdm_rest neg1 N1 N2 (by rw [← hR]; exact hz)
      rw [← hR] at f2
      have hRN : R ≤ N2 := by
        rw [hR]; split
        · omega
        · exact Nat.le_of_lt (Nat.mod_lt _ (by omega))
      have lQ := Lib.hid ((((l1.le (by rw [sg_natAbs]; exact Nat.div_le_self N1 N2)).add (show Lim 1 2 from Lim.of64 (by decide)) 1000001 (by omega) (by omega)).dl 1099511627776 (by omega)) : dl B32 (N1 / N2 + 1) ≤ 1099511627776)
      have HP := Lib.hid (show 0 < R by omega)
      have F1 := Lib.hid f1.symm; have F2 := Lib.hid f2.symm; have HR := Lib.hid hR
      clear f1 f2 hR hz
      go_enter Try.func74, Try.ntmps74
      go_wp2_with fail
      refine (HM.out).mono ?_
      rintro e w1 ⟨q, r, rfl, dq, dr, bb⟩
      replace hN2' := hN2'.below bb
      have bel := bb
      clear bb
      obtain ⟨hc, hf⟩ := bcell bel
      rw [← HR.out] at dr
      clear HM HR hN1'
      have hlen : ∃ ad n cap, r = .slice ad n cap ∧ 0 < n := by
        obtain ⟨ad, cap, k1, _⟩ := dr
        exact ⟨ad, _, cap, k1, dl_pos B32_two HP.out⟩
      obtain ⟨ad7, n7, cap7, rfl, hp7⟩ := hlen
      go_wp2_with fail
      refine (of_any 1 _ (by decide)).mono ?_
      rintro e w2 ⟨o, rfl, do1, bb⟩
      replace hN2' := hN2'.below bb
      replace dq := dq.below bb
      replace dr := dr.below bb
      replace bel := below_to bel bb
      clear bb
      clear hc hf
      obtain ⟨hc, hf⟩ := bcell bel
      go_wp2_with fail
      refine (add_any q o (N1 / N2) 1 _ dq.nt do1.nt lQ.out).mono ?_
      rintro e w3 ⟨q2, rfl, dq2, bb⟩
      replace hN2' := hN2'.below bb
      replace dq := dq.below bb
      replace dr := dr.below bb
      replace do1 := do1.below bb
      replace bel := below_to bel bb
      clear bb
      clear hc hf
      obtain ⟨hc, hf⟩ := bcell bel
      go_wp2_with fail
      refine (sub_ge _ _ N2 R _ hN2' dr.nt hRN).mono ?_
      rintro e w4 ⟨r2, rfl, dr2, bb⟩
      replace hN2' := hN2'.below bb
      replace dq := dq.below bb
      replace dr := dr.below bb
      replace do1 := do1.below bb
      replace dq2 := dq2.below bb
      replace bel := below_to bel bb
      clear bb
      clear hc hf
      obtain ⟨hc, hf⟩ := bcell bel
      clear dq dr do1
      have s00 := (bel.cell (p := ⟨w.heap.size, 0, none⟩) (by first | (simp; done) | (simp; omega))).trans c00
      have s01 := (bel.cell (p := ⟨w.heap.size, 1, none⟩) (by first | (simp; done) | (simp; omega))).trans c01
      have s10 := (bel.cell (p := ⟨(w.heap.size + 1), 0, none⟩) (by first | (simp; done) | (simp; omega))).trans c10
      have s11 := (bel.cell (p := ⟨(w.heap.size + 1), 1, none⟩) (by first | (simp; done) | (simp; omega))).trans c11
      have DQ := Lib.hid dq2; have DR := Lib.hid dr2
      clear dq2 dr2 hN2'
      go_wp2_with fail
      go_region_held3 (fun w' => w'.cell? ⟨w.heap.size, 0, none⟩ = some (.bool neg1) ∧ w'.cell? ⟨w.heap.size, 1, none⟩ = some (.slice ad1 n1 cap1) ∧ w'.cell? ⟨(w.heap.size + 1), 0, none⟩ = some (.bool (!neg1)) ∧ w'.cell? ⟨(w.heap.size + 1), 1, none⟩ = some (.slice ad2 n2 cap2)) (first | exact ⟨s00, s01, s10, s11⟩ | go_keep)
        (first
        | (go_at_call 81; have hd := DQ.out; refine (signed_any _ _ _ _ (hd.below (Below.refl _ _).drew)).mono ?_; rintro e wq ⟨v8, rfl, h8, b2⟩; clear hd DQ; rw [F1.out] at h8; replace bel := below_to bel ((Below.refl _ _).drew.trans b2); clear s00 s01 s10 s11; have s00 := (bel.cell (p := ⟨w.heap.size, 0, none⟩) (by first | (simp; done) | (simp; omega))).trans c00; have s01 := (bel.cell (p := ⟨w.heap.size, 1, none⟩) (by first | (simp; done) | (simp; omega))).trans c01; have s10 := (bel.cell (p := ⟨(w.heap.size + 1), 0, none⟩) (by first | (simp; done) | (simp; omega))).trans c10; have s11 := (bel.cell (p := ⟨(w.heap.size + 1), 1, none⟩) (by first | (simp; done) | (simp; omega))).trans c11; have DR2 := Lib.hid (DR.out.below ((Below.refl _ _).drew.trans b2)); clear DR; obtain ⟨hc8, hf8⟩ := bcell bel; obtain ⟨b8, ad8, n8, cap8, rfl⟩ := h8.form)
        | (go_at_call 81; have hd := DR2.out; refine (signed_any _ _ _ _ hd).mono ?_; rintro e wr ⟨v9, rfl, h9, b2⟩; clear hd DR2; rw [F2.out] at h9; replace bel := below_to bel b2; replace h8 := h8.below b2; clear s00 s01 s10 s11 hc8 hf8; have s00 := (bel.cell (p := ⟨w.heap.size, 0, none⟩) (by first | (simp; done) | (simp; omega))).trans c00; have s01 := (bel.cell (p := ⟨w.heap.size, 1, none⟩) (by first | (simp; done) | (simp; omega))).trans c01; have s10 := (bel.cell (p := ⟨(w.heap.size + 1), 0, none⟩) (by first | (simp; done) | (simp; omega))).trans c10; have s11 := (bel.cell (p := ⟨(w.heap.size + 1), 1, none⟩) (by first | (simp; done) | (simp; omega))).trans c11; obtain ⟨hc, hf⟩ := bcell bel; obtain ⟨b9, ad9, n9, cap9, rfl⟩ := h9.form))
      obtain ⟨bel9, kp⟩ := store4 hb0 (by omega) (by omega) (by simp) (by simp) (by omega) ni8 ni9 bel (.bool b8) (.slice ad8 n8 cap8) (.bool b9) (.slice ad9 n9 cap9) (notInt_bool _) (notInt_bool _)
      go_wp2
      exact bodyPost_ret (by simp [results, Try.results74, go_sem, hc]) rfl ⟨_, _, rfl, kp.wc h8, kp.wc h9, bel9⟩
end Go.Proofs.Ytjdmnchndnpdlaa
