/- law02's awake. -/
import Derived.Test.YtbjgcnhilakimaaDivK
import Derived.Test.YtbjgcnhilakimaaMulC
import Derived.Test.YtbjgcnhilakimaaLawI
import Derived.Test.YtbjgcnhilakimaaLawA
namespace Go.Proofs.Ytbjgcnhilakimaa
open Go.RowKit
set_option maxRecDepth 100000

theorem dg_three1 : dg B32 (4294967296 * 4294967296) = [0, 0, 1] := by
  have ho : okb B32 [0, 0, 1] := by intro x hx; simp at hx; rw [B32_eq]; omega
  have hn : norm [0, 0, 1] := by intro _; show 1 ≠ 0; omega
  have := dg_unique B32_two ho hn
  rw [← this]
  rfl
theorem below_on {B : Nat} {w a b : World} (h : Below B w a) (k : Below a.heap.size a b) (hB : B ≤ w.heap.size) : Below B w b := h.trans (k.mono (Nat.le_trans hB h.size))

set_option maxHeartbeats 2000000 in
theorem awake2_any (w : World) : Calls Try.prog 46 #[] w (TruePost w) := by
  have D14 := Lib.hid (dg_one 14 (by decide) (by decide))
  have DP := Lib.hid dg_three1
  go_enter Try.func46, Try.ntmps46
  go_wp2_with fail
  refine (of_any 100 _ (by decide)).mono ?_
  rintro e w1 ⟨v1, rfl, hd1, hb1⟩
  have HB1 := Lib.hid hb1
  go_wp2_with fail
  refine (of_any 7 _ (by decide)).mono ?_
  rintro e w2 ⟨v2, rfl, hd2, hb2⟩
  have hd1 := hd1.below hb2
  have HB2 := Lib.hid (below_on HB1.out hb2 (Nat.le_refl _))
  have HM := Lib.hid (divMod_any v1 v2 100 7 w2 hd1.nt hd2.nt)
  clear hb1 hb2 hd1 hd2
  go_wp2_with fail
  refine (HM.out).mono ?_
  rintro e w3 ⟨vq, vr, rfl, hq, hr, hb3⟩
  have hq : Dg w3 .u32 B32 vq 14 := hq
  have hr : Dg w3 .u32 B32 vr 2 := hr
  have HB3 := Lib.hid (below_on HB2.out hb3 (Nat.le_refl _))
  have HQ := Lib.hid hq; have HR := Lib.hid hr
  clear hq hr hb3 HM
  go_wp2_with fail
  refine (of_any 4294967296 _ (by decide)).mono ?_
  rintro e w4 ⟨v4, rfl, hd4, hb4⟩
  have HB4 := Lib.hid (below_on HB3.out hb4 (Nat.le_refl _))
  have HQ4 := Lib.hid (HQ.out.below hb4); have HR4 := Lib.hid (HR.out.below hb4); have HD4 := Lib.hid hd4
  clear hb4 hd4 HQ HR
  go_wp2_with fail
  refine (of_any 4294967296 _ (by decide)).mono ?_
  rintro e w5 ⟨v5, rfl, hd5, hb5⟩
  have HB5 := Lib.hid (below_on HB4.out hb5 (Nat.le_refl _))
  have HQ5 := Lib.hid (HQ4.out.below hb5); have HR5 := Lib.hid (HR4.out.below hb5)
  have hsz : dl B32 4294967296 ≤ 1000000 := Nat.le_trans (dl_le B32_two (k := 2) (by decide)) (by omega)
  have HM := Lib.hid (mul_any v4 v5 4294967296 4294967296 w5 (HD4.out.below hb5).nt hd5.nt hsz hsz)
  clear hb5 hd5 HQ4 HR4 HD4 hsz
  go_wp2_with fail
  refine (HM.out).mono ?_
  rintro e w6 ⟨vp, rfl, hp, hb6⟩
  have HB6 := Lib.hid (below_on HB5.out hb6 (Nat.le_refl _))
  have HQ6 := Lib.hid (HQ5.out.below hb6); have HR6 := Lib.hid (HR5.out.below hb6); have HP6 := Lib.hid hp
  clear hb6 hp HQ5 HR5 HM
  go_wp2_with fail
  refine (of_any 14 _ (by decide)).mono ?_
  rintro e w7 ⟨v7, rfl, hd7, hb7⟩
  have HB7 := Lib.hid (below_on HB6.out hb7 (Nat.le_refl _))
  have HQ7 := Lib.hid (HQ6.out.below hb7); have HR7 := Lib.hid (HR6.out.below hb7); have HP7 := Lib.hid (HP6.out.below hb7)
  have HC := Lib.hid (cmp_any vq v7 14 14 w7 HQ7.out.nt hd7.nt)
  clear hb7 hd7 HQ6 HR6 HP6
  go_wp2_with fail
  refine (HC.out).mono ?_
  rw [c3_eq rfl]
  intro e w8 hh
  obtain ⟨rfl, hb8, _⟩ := quiet_below hh
  have HB8 := Lib.hid (below_on HB7.out hb8 (Nat.le_refl _))
  have HR8 := Lib.hid (HR7.out.below hb8); have HP8 := Lib.hid (HP7.out.below hb8)
  have hq8 := HQ7.out.below hb8
  obtain ⟨adq, capq, rfl, _, _, _, _, _⟩ := hq8
  rw [D14.out]
  clear hh hb8 HQ7 HR7 HP7 HC
  simp only [List.length_cons, List.length_nil, Nat.zero_add]
  go_wp2_with fail
  refine (of_any 2 _ (by decide)).mono ?_
  rintro e w9 ⟨v9, rfl, hd9, hb9⟩
  have HB9 := Lib.hid (below_on HB8.out hb9 (Nat.le_refl _))
  have HP9 := Lib.hid (HP8.out.below hb9)
  have HC := Lib.hid (cmp_any vr v9 2 2 w9 (HR8.out.below hb9).nt hd9.nt)
  clear hb9 hd9 HR8 HP8 hq hr
  go_wp2_with fail
  refine (HC.out).mono ?_
  rw [c3_eq rfl]
  intro e wa hh
  obtain ⟨rfl, hba, _⟩ := quiet_below hh
  have HBA := Lib.hid (below_on HB9.out hba (Nat.le_refl _))
  have HPA := Lib.hid (HP9.out.below hba)
  clear hh hba HP9 HC
  go_wp2_with fail
  refine (of_any 12 _ (by decide)).mono ?_
  rintro e wb ⟨vb, rfl, hdb, hbb⟩
  have HBB := Lib.hid (below_on HBA.out hbb (Nat.le_refl _))
  have HPB := Lib.hid (HPA.out.below hbb)
  have HDB := Lib.hid hdb
  clear hbb hdb HPA
  go_wp2_with fail
  refine (of_any 18 _ (by decide)).mono ?_
  rintro e wc ⟨vc, rfl, hdc, hbc⟩
  have HBC := Lib.hid (below_on HBB.out hbc (Nat.le_refl _))
  have HPC := Lib.hid (HPB.out.below hbc)
  have HG := Lib.hid (gcd_any vb vc 12 18 wc (HDB.out.below hbc).nt hdc.nt)
  clear hbc hdc HPB HDB
  go_wp2_with fail
  refine (HG.out).mono ?_
  rintro e wd ⟨vg, rfl, hdg, hbd⟩
  have HBD := Lib.hid (below_on HBC.out hbd (Nat.le_refl _))
  have HPD := Lib.hid (HPC.out.below hbd)
  have HDG := Lib.hid (show Dg wd .u32 B32 vg 6 from hdg)
  clear hbd hdg HPC HG
  go_wp2_with fail
  refine (of_any 6 _ (by decide)).mono ?_
  rintro e we ⟨v6, rfl, hde, hbe⟩
  have HBE := Lib.hid (below_on HBD.out hbe (Nat.le_refl _))
  have HPE := Lib.hid (HPD.out.below hbe)
  have HC := Lib.hid (cmp_any vg v6 6 6 we (HDG.out.below hbe).nt hde.nt)
  clear hbe hde HPD HDG
  go_wp2_with fail
  refine (HC.out).mono ?_
  rw [c3_eq rfl]
  intro e wf hh
  obtain ⟨rfl, hbf, _⟩ := quiet_below hh
  have HBF := Lib.hid (below_on HBE.out hbf (Nat.le_refl _))
  have hpf := HPE.out.below hbf
  obtain ⟨adp, capp, rfl, rdp, _, _, _, _⟩ := hpf
  rw [DP.out] at rdp ⊢
  obtain ⟨bp, op, rfl, _, hcp⟩ := rdp.get (by simp)
  have k2 := hcp 2 (by simp)
  simp only [lg_cons_zero, lg_cons_succ] at k2
  simp only [List.length_cons, List.length_nil, Nat.zero_add]
  clear hh hbf HPE HC hcp rdp
  go_wp2_with fail
  go_ret
  exact ⟨rfl, HBF.out⟩
end Go.Proofs.Ytbjgcnhilakimaa
