import Derived.Test.YtjdmnchndnpdlaaNatE
import Derived.Deep.DeepCutAuto
import Derived.Deep.LoopGhost
import Derived.BigRegion
import Derived.Deep.RegionHeld3
namespace Go.Proofs.Ytjdmnchndnpdlaa
open Go.RowKit
set_option maxRecDepth 100000



/-- Behind the exchange in Nat.Add. -/
def AddCut (w : World) (N M : Nat) (s0 s1 : Value) (wc : World) : Prop :=
  w = wc ∧ ∃ ad cap X ad' cap' Y, s0 = .slice ad (dl B32 X) cap ∧ s1 = .slice ad' (dl B32 Y) cap' ∧ Rd w .u32 ad (dg B32 X) ∧ Rd w .u32 ad' (dg B32 Y) ∧ dl B32 Y ≤ dl B32 X ∧ X + Y = N + M ∧
    dl B32 X ≤ 1099511627776 ∧ dl B32 X ≤ cap ∧ dl B32 Y ≤ cap'

/-- The loop of Nat.Add. -/
def AddInv (w : World) (g d X Y : Nat) (c i : Value) (wr : World) : Prop :=
  ∃ (k cc : Nat) (zs : List Nat), k ≤ d ∧ i = .int .i64 k ∧ c = .int .u32 cc ∧ cc ≤ 1 ∧ zs.length = d + 1 ∧ okb B32 zs ∧ Row wr .u32 77 w.heap.size g (d + 1) zs ∧ Below w.heap.size w wr ∧
    vl B32 (zs.take k) + cc * B32 ^ k = vl B32 ((dg B32 X).take k) + vl B32 ((dg B32 Y).take k)

set_option maxHeartbeats 1000000 in
theorem add_any (v1 v2 : Value) (N M : Nat) (w : World) (h1 : Nt w v1 N) (h2 : Nt w v2 M) (hb : dl B32 (N + M) ≤ 1099511627776) :
    Calls Try.prog 44 #[v1, v2] w (DgPost w (N + M)) := by
  obtain ⟨xs, ox, vx, ad1, cap1, rfl, r1, c1, m1, l1, n1⟩ := h1
  obtain ⟨ys, oy, vy, ad2, cap2, rfl, r2, c2, m2, l2, n2⟩ := h2
  have HX := Lib.hid vx; have HY := Lib.hid vy; clear vx vy
  have dx := dl_vl_le B32_two ox
  have dy := dl_vl_le B32_two oy
  obtain ⟨i0, hi, hz0, hz1, hz2⟩ := info_parts Try.info77
  go_enter Try.func44, Try.ntmps44
  go_wp2_with fail
  refine (cut_any ad1 _ cap1 xs _ rfl r1 ox (by omega) c1 n1).mono ?_
  rintro e w' ⟨rfl, rfl⟩
  go_wp2_with fail
  refine (cut_any ad2 _ cap2 ys _ rfl r2 oy (by omega) c2 n2).mono ?_
  rintro e w' ⟨rfl, rfl⟩
  go_upto_if 16 with fail
  go_cut [0, 1] (fun s0 s1 wc => AddCut w' N M s0 s1 wc)
  case first =>
    go_wp2
    · have ht : dl B32 (vl B32 xs) < dl B32 (vl B32 ys) := by assumption
      go_meet
      exact ⟨rfl, ad2, cap2, vl B32 ys, ad1, cap1, vl B32 xs, rfl, rfl, r2.dg oy, r1.dg ox, by omega, by rw [HX.out, HY.out, Nat.add_comm], by omega, by omega, by omega⟩
    · have ht : ¬ dl B32 (vl B32 xs) < dl B32 (vl B32 ys) := by assumption
      go_meet
      exact ⟨rfl, ad1, cap1, vl B32 xs, ad2, cap2, vl B32 ys, rfl, rfl, r1.dg ox, r2.dg oy, by omega, by rw [HX.out, HY.out], by omega, by omega, by omega⟩
  case rest =>
    obtain ⟨rfl, ad, cap, X, ad', cap', Y, rfl, rfl, rX, rY, hYX, hS, hLX, hcX, hcY⟩ := hcut
    clear r1 r2 c1 c2 m1 m2 n1 n2 l1 l2 HX HY dx dy ox oy
    have HS := Lib.hid hS; clear hS
    obtain ⟨d, hd⟩ : ∃ d, d = dl B32 X := ⟨_, rfl⟩
    rw [← hd] at hYX hLX hcX
    rw [← hd]
    have HD := Lib.hid hd; clear hd
    go_wp2_with (at_make; refine wpList_make_full _ rfl _ _ 27 rfl w'.heap.size 77 i0 (.int .u32 0) 1 Try.underlying27 hi hz0 hz1 .i64 .i64 _ _ (d + 1) rfl rfl (by omega) (by omega) (by rw [hz2]; omega) (by unfold maxLen; omega) (Nat.le_refl _) ?_)
    intro w1 hown hgrow
    have hrow := Row.of_made hown
    have hb1 : Below w'.heap.size w' w1 := (Below.refl _ _).grown hgrow (Nat.le_refl _) (fun k h => by cases h)
    clear hown hgrow
    obtain ⟨g, hg⟩ : ∃ g, g = w'.heap.size := ⟨_, rfl⟩
    rw [← hg] at hrow
    rw [← hg]
    have HG := Lib.hid hg; clear hg
    go_wp2
    go_loopw [6, 25] (fun c i wr => AddInv w' g d X Y c i wr) (fun _ i _ => d - (intOf i).toNat)
    case atStart => exact ⟨0, 0, _, Nat.zero_le _, rfl, rfl, by omega, by simp, okb_replicate B32_pos _, hrow.rebase (Nat.le_of_eq HG.out.symm), hb1, by simp [vl]⟩
    case round =>
      obtain ⟨k, cc, zs, hk, rfl, rfl, hcc, hzl, hzo, hro, hbe, hmath⟩ := hrel
      by_cases hlt : k < d
      · have HM := Lib.hid hmath; clear hmath
        have HZ := Lib.hid hzl
        have hX := (rX.below hbe).get (by rw [length_dg, ← HD.out]; omega)
        obtain ⟨b, off, ha, hbs, hcx⟩ := hX
        have hcx := hcx k (by rw [length_dg, ← HD.out]; omega)
        have hbb : b < g := by
          obtain ⟨b', off', ha', hb', _⟩ := rX.get (by rw [length_dg, ← HD.out]; omega)
          rw [ha] at ha'; simp at ha'; rw [HG.out]; omega
        subst ha
        have hcs := hro.cell (j := k) (by omega)
        have hfr := hro.free k
        have lx := lg_lt (okb_dg B32_two X) B32_pos k
        have ly := lg_lt (okb_dg B32_two Y) B32_pos k
        have rY' := (rY.below hbe).drew
        clear rX rY hzl
        go_upto_region 9 with fail
        have HRO := Lib.hid hro; have HBE := Lib.hid hbe
        clear hro hbe hb1 hrow
        go_region_with (first | (go_at_call 80; refine (at_any ad' (dl B32 Y) cap' (dg B32 Y) k _ rfl (by assumption) (by rw [length_dg]; omega) (by omega)).mono ?_; rintro e w' ⟨rfl, hw⟩; have hw := hw.symm; subst hw) | (go_at_call 79; refine (add32_any (lg (dg B32 X) k) (lg (dg B32 Y) k) cc _ lx ly hcc).mono ?_; rintro e w' ⟨rfl, hw⟩; have hw := hw.symm; subst hw))
        all_goals
          go_wp2
          go_roundw
          case rel =>
            refine ⟨k + 1, (lg (dg B32 X) k + lg (dg B32 Y) k + cc) / B32, zs.set k ((lg (dg B32 X) k + lg (dg B32 Y) k + cc) % B32), by omega, by go_num, by rw [B32_eq]; go_num, by rw [B32_eq] at lx ly ⊢; omega, by rw [List.length_set]; exact HZ.out,
              okb_set hzo (Nat.mod_lt _ B32_pos), ?_, ?_, ?_⟩
            · have hs := (HRO.out.set k ((lg (dg B32 X) k + lg (dg B32 Y) k + cc) % B32)).drew
              rw [show (((lg (dg B32 X) k + lg (dg B32 Y) k + cc) % B32 : Nat) : Int) = ((lg (dg B32 X) k : Nat) + (lg (dg B32 Y) k : Nat) + (cc : Nat) : Int) % 4294967296 from by rw [B32_eq]; omega] at hs
              exact hs
            · exact (HBE.out.setCell (p := ⟨g, k, none⟩) (Nat.le_of_eq HG.out.symm) _).drew
            · rw [vl_set_succ _ _ (by rw [HZ.out]; omega), vl_take_succ, vl_take_succ]; exact add_step HM.out
          case measure => simp [intOf]; omega
      · obtain rfl : k = d := by omega
        have hcs := hro.cell (j := k) (by omega)
        have hfr := hro.free k
        have HM := Lib.hid hmath; clear hmath
        have hset := hro.set k cc
        have hbs := hbe.setCell (p := ⟨g, k, none⟩) (Nat.le_of_eq HG.out.symm) (.int .u32 (cc : Nat))
        have ho2 := okb_set hzo (i := k) (x := cc) (b := B32) (by unfold B32; omega)
        have hv : vl B32 (zs.set k cc) = N + M := by
          rw [← vl_take_all (k := k + 1) (by rw [List.length_set]; omega), vl_set_succ _ _ (by omega), HM.out]
          have e1 := vl_take_all (b := B32) (xs := dg B32 X) (k := k) (by rw [length_dg, ← HD.out]; omega)
          have e2 := vl_take_all (b := B32) (xs := dg B32 Y) (k := k) (by rw [length_dg]; omega)
          rw [e1, e2, vl_dg B32_two, vl_dg B32_two, HS.out]
        have HL := Lib.hid (show (zs.set k cc).length = zs.length from by simp)
        have HV := Lib.hid hv
        clear rX rY hv hro hbe hzo hb1 hrow
        go_wp2_with fail
        refine (cut_any _ _ _ (zs.set k cc) _ (by rw [HL.out, hzl]) hset.rd ho2 (by rw [HL.out]; omega) (by rw [HL.out]; omega) (fun h => by cases h)).mono ?_
        rintro e w2 ⟨rfl, hw⟩
        have hw := hw.symm; subst hw
        have hrd := hset.rd.dg ho2
        have hle := dl_vl_le B32_two ho2
        rw [HV.out] at hrd hle ⊢
        go_wp2
        go_ret
        exact ⟨_, rfl, ⟨_, _, rfl, hrd, by rw [length_dg]; have := HL.out; omega, by unfold maxLen; omega, hb, fun h => by cases h⟩, hbs⟩
end Go.Proofs.Ytjdmnchndnpdlaa
