/- orb: its functions. -/
import Derived.Test.YtmpdbkdijfpbbaaGreatDoorObW
import Derived.Test.YtmpdbkdijfpbbaaGreatDoorMnA
import Derived.Test.YtmpdbkdijfpbbaaGreatDoorGZ
import Derived.Test.YtmpdbkdijfpbbaaGreatDoorTyO
import Derived.Test.YtmpdbkdijfpbbaaGreatDoorSh
namespace Go.Proofs.YtmpdbkdijfpbbaaGreatDoor
open Go.RowKit
set_option maxRecDepth 100000
set_option linter.unusedVariables false

theorem en15 : (Tryz.f15.name == "runtime.NumGoroutine") = false ∧ Tryz.f15.body.isNone = false := ⟨by decide +kernel, by kernel_rfl⟩
theorem en18 : (Tryz.f18.name == "runtime.NumGoroutine") = false ∧ Tryz.f18.body.isNone = false := ⟨by decide +kernel, by kernel_rfl⟩
theorem en46 : (Tryz.f46.name == "runtime.NumGoroutine") = false ∧ Tryz.f46.body.isNone = false := ⟨by decide +kernel, by kernel_rfl⟩
theorem en9 : (Tryz.f9.name == "runtime.NumGoroutine") = false ∧ Tryz.f9.body.isNone = false := ⟨by decide +kernel, by kernel_rfl⟩
theorem en11 : (Tryz.f11.name == "runtime.NumGoroutine") = false ∧ Tryz.f11.body.isNone = false := ⟨by decide +kernel, by kernel_rfl⟩
theorem en13 : (Tryz.f13.name == "runtime.NumGoroutine") = false ∧ Tryz.f13.body.isNone = false := ⟨by decide +kernel, by kernel_rfl⟩
theorem en58 : (Tryz.f58.name == "runtime.NumGoroutine") = false ∧ Tryz.f58.body.isNone = false := ⟨by decide +kernel, by kernel_rfl⟩
theorem en21 : (Tryz.f21.name == "runtime.NumGoroutine") = false ∧ Tryz.f21.body.isNone = false := ⟨by decide +kernel, by kernel_rfl⟩
theorem en22 : (Tryz.f22.name == "runtime.NumGoroutine") = false ∧ Tryz.f22.body.isNone = false := ⟨by decide +kernel, by kernel_rfl⟩
theorem en19 : (Tryz.f19.name == "runtime.NumGoroutine") = false ∧ Tryz.f19.body.isNone = false := ⟨by decide +kernel, by kernel_rfl⟩
theorem en24 : (Tryz.f24.name == "runtime.NumGoroutine") = false ∧ Tryz.f24.body.isNone = false := ⟨by decide +kernel, by kernel_rfl⟩
theorem en54 : (Tryz.f54.name == "runtime.NumGoroutine") = false ∧ Tryz.f54.body.isNone = false := ⟨by decide +kernel, by kernel_rfl⟩
theorem en16 : (Tryz.f16.name == "runtime.NumGoroutine") = false ∧ Tryz.f16.body.isNone = false := ⟨by decide +kernel, by kernel_rfl⟩
theorem en5 : (Tryz.f5.name == "runtime.NumGoroutine") = false ∧ Tryz.f5.body.isNone = false := ⟨by decide +kernel, by kernel_rfl⟩
/-- Which of the eleven a half is. -/
def kar (h : Int) : Int := if h < 1 ∨ 60 < h then 0 else if h = 1 then 11 else if 57 < h then h - 50 else (h - 2) % 7 + 1
def yogaV (t : Rat) : Rat := rmod (moonV t + sunV t) ((360 : Int) : Rat)
theorem prt_sm {x : Rat} {n : Int} (hn : 0 < n) (hn2 : n ≤ 1000) (h0 : 0 ≤ x) (h1 : x < ((360 : Int) : Rat)) : sm64 (Rat.floor (x * (((n : Int) : Rat) / ((360 : Int) : Rat)))) = prt x n := by
  have := prt_bd hn h0 h1
  exact sm64_t (show _ ≤ prt x n by omega) (show prt x n ≤ _ by omega)
set_option maxHeartbeats 4000000 in
theorem oSunOrbit_any (w : World) :
    Calls Tryz.prog 15 #[] w (OrbPost w pyr pay ssz sch) := by
  have bel : Below w.heap.size w w := Below.refl _ _
  refine E.enter (nt := 6) (L := []) Tryz.func15 rfl rfl rfl args_nil ?_
  intro a hF
  refine wp_seq ?_
  refine E.seq ?_
  obtain ⟨g0, w1, ge0, hr, bb, o0⟩ := own_alloc (P := Tryz.prog) (w := w) (cs := [.bool false, .slice none 0 0, .slice none 0 0, .bool false, .slice none 0 0, .slice none 0 0, .bool false, .slice none 0 0, .slice none 0 0, .bool false, .slice none 0 0, .slice none 0 0]) 45 ze_Orb rfl (niB (niS (niS (niB (niS (niS (niB (niS (niS (niB (niS (niS ni0))))))))))))
  replace ge0 : w.heap.size ≤ g0 := by rw [← ge0]; exact bel.size
  refine E.opv hF (r_alloc hr) rfl rfl rfl rfl fun a hF => ?_
  clear hr
  replace bel := below_to bel bb
  clear bb
  refine E.nil ?_
  refine wp_seq ?_
  refine E.seq ?_
  refine E.call hF (r_call Tryz.func50 en50.1 en50.2 map0) (mYear_any _) rfl rfl rfl rfl ?_
  rintro e w2 ⟨vv3, rfl, hh4, bb⟩
  refine ⟨_, rfl, ?_⟩
  intro a hF
  replace o0 := o0.below bb
  replace bel := below_to bel bb
  clear bb
  obtain ⟨b5, ad5, n5, c5, ae5, m5, d5, rfl, hn5, hd5⟩ := Rq.shape hh4
  have hf6 := Wc.abs hn5
  refine E.call hF (r_call Tryz.func51 en51.1 en51.2 map0) (mAnomalyYear_any _) rfl rfl rfl rfl ?_
  rintro e w7 ⟨vv8, rfl, hh9, bb⟩
  refine ⟨_, rfl, ?_⟩
  intro a hF
  replace hh4 := hh4.below bb
  replace hn5 := hn5.below bb
  replace hf6 := hf6.below bb
  replace hd5 := hd5.below bb
  replace o0 := o0.below bb
  replace bel := below_to bel bb
  clear bb
  obtain ⟨b10, ad10, n10, c10, ae10, m10, d10, rfl, hn10, hd10⟩ := Rq.shape hh9
  have hf11 := Wc.abs hn10
  refine E.call hF (r_call Tryz.func52 en52.1 en52.2 (map2 ev_c ev_c)) (rOf2_any (14) (360) _ (by decide) (by decide) (by decide) (by decide)) rfl rfl rfl rfl ?_
  rintro e w12 ⟨vv13, rfl, hh14, bb⟩
  refine ⟨_, rfl, ?_⟩
  intro a hF
  replace hh9 := hh9.below bb
  replace hn10 := hn10.below bb
  replace hf11 := hf11.below bb
  replace hd10 := hd10.below bb
  replace hh4 := hh4.below bb
  replace hn5 := hn5.below bb
  replace hf6 := hf6.below bb
  replace hd5 := hd5.below bb
  replace o0 := o0.below bb
  replace bel := below_to bel bb
  clear bb
  obtain ⟨b15, ad15, n15, c15, ae15, m15, d15, rfl, hn15, hd15⟩ := Rq.shape hh14
  have hf16 := Wc.abs hn15
  refine E.call hF (r_call Tryz.func52 en52.1 en52.2 (map2 ev_c ev_c)) (rOf2_any (1) (42) _ (by decide) (by decide) (by decide) (by decide)) rfl rfl rfl rfl ?_
  rintro e w17 ⟨vv18, rfl, hh19, bb⟩
  refine ⟨_, rfl, ?_⟩
  intro a hF
  replace hh14 := hh14.below bb
  replace hn15 := hn15.below bb
  replace hf16 := hf16.below bb
  replace hd15 := hd15.below bb
  replace hh9 := hh9.below bb
  replace hn10 := hn10.below bb
  replace hf11 := hf11.below bb
  replace hd10 := hd10.below bb
  replace hh4 := hh4.below bb
  replace hn5 := hn5.below bb
  replace hf6 := hf6.below bb
  replace hd5 := hd5.below bb
  replace o0 := o0.below bb
  replace bel := below_to bel bb
  clear bb
  obtain ⟨b20, ad20, n20, c20, ae20, m20, d20, rfl, hn20, hd20⟩ := Rq.shape hh19
  have hf21 := Wc.abs hn20
  refine E.opv hF (r_build (pair4 (hF.at 3 rfl) (hF.at 2 rfl) (hF.at 1 rfl) (hF.at 0 rfl)) (bd_Orb_0123 _ _ _ _ _ _ _ _ _ _ _ _ _ _ _ _ _ _ _ _ _ _ _ _ _ _ _ _ _)) rfl rfl rfl rfl fun a hF => ?_
  obtain ⟨w22, hr, tu, on⟩ := st_Orb (vs := [.bool b5, .slice ad5 n5 c5, .slice ae5 m5 d5, .bool b10, .slice ad10 n10 c10, .slice ae10 m10 d10, .bool b15, .slice ad15 n15 c15, .slice ae15 m15 d15, .bool b20, .slice ad20 n20 c20, .slice ae20 m20 d20]) o0 rfl rfl (ocB (ocS (ocS (ocB (ocS (ocS (ocB (ocS (ocS (ocB (ocS (ocS oc0)))))))))))) (niB (niS (niS (niB (niS (niS (niB (niS (niS (niB (niS (niS ni0)))))))))))) (o := 0) rfl
  have kp := tu.keep o0
  refine E.st hF (r_store (hF.at 5 rfl) (hF.at 0 rfl) (hr _ rfl)) rfl rfl fun a hF => ?_
  clear hr
  replace hh4 := hh4.keep kp
  replace hn5 := hn5.keep kp
  replace hf6 := hf6.keep kp
  replace hd5 := hd5.keep kp
  replace hh9 := hh9.keep kp
  replace hn10 := hn10.keep kp
  replace hf11 := hf11.keep kp
  replace hd10 := hd10.keep kp
  replace hh14 := hh14.keep kp
  replace hn15 := hn15.keep kp
  replace hf16 := hf16.keep kp
  replace hd15 := hd15.keep kp
  replace hh19 := hh19.keep kp
  replace hn20 := hn20.keep kp
  replace hf21 := hf21.keep kp
  replace hd20 := hd20.keep kp
  replace bel := tu.below bel ge0
  clear tu kp
  replace o0 := on
  clear on
  refine E.nil ?_
  refine wp_ret ?_
  refine bodyPost_ret (res_cell Tryz.results15 (hF.at 5 rfl) (ld_Orb (vs := [.bool b5, .slice ad5 n5 c5, .slice ae5 m5 d5, .bool b10, .slice ad10 n10 c10, .slice ae10 m10 d10, .bool b15, .slice ad15 n15 c15, .slice ae15 m15 d15, .bool b20, .slice ad20 n20 c20, .slice ae20 m20 d20]) o0 rfl rfl)) hF.dfr ?_
  exact ⟨_, rfl, ⟨_, _, _, _, _, _, _, _, _, _, _, _, _, _, _, _, _, _, _, _, _, _, _, _, _, _, _, _, rfl, hh4, hh9, hh14, hh19⟩, bel⟩

set_option maxHeartbeats 4000000 in
theorem oMoonOrbit_any (w : World) :
    Calls Tryz.prog 18 #[] w (OrbPost w pmo pam msz mch) := by
  have bel : Below w.heap.size w w := Below.refl _ _
  refine E.enter (nt := 6) (L := []) Tryz.func18 rfl rfl rfl args_nil ?_
  intro a hF
  refine wp_seq ?_
  refine E.seq ?_
  obtain ⟨g0, w1, ge0, hr, bb, o0⟩ := own_alloc (P := Tryz.prog) (w := w) (cs := [.bool false, .slice none 0 0, .slice none 0 0, .bool false, .slice none 0 0, .slice none 0 0, .bool false, .slice none 0 0, .slice none 0 0, .bool false, .slice none 0 0, .slice none 0 0]) 45 ze_Orb rfl (niB (niS (niS (niB (niS (niS (niB (niS (niS (niB (niS (niS ni0))))))))))))
  replace ge0 : w.heap.size ≤ g0 := by rw [← ge0]; exact bel.size
  refine E.opv hF (r_alloc hr) rfl rfl rfl rfl fun a hF => ?_
  clear hr
  replace bel := below_to bel bb
  clear bb
  refine E.nil ?_
  refine wp_seq ?_
  refine E.seq ?_
  refine E.call hF (r_call Tryz.func56 en56.1 en56.2 map0) (mMonth_any _) rfl rfl rfl rfl ?_
  rintro e w2 ⟨vv3, rfl, hh4, bb⟩
  refine ⟨_, rfl, ?_⟩
  intro a hF
  replace o0 := o0.below bb
  replace bel := below_to bel bb
  clear bb
  obtain ⟨b5, ad5, n5, c5, ae5, m5, d5, rfl, hn5, hd5⟩ := Rq.shape hh4
  have hf6 := Wc.abs hn5
  refine E.call hF (r_call Tryz.func57 en57.1 en57.2 map0) (mAnomalyMonth_any _) rfl rfl rfl rfl ?_
  rintro e w7 ⟨vv8, rfl, hh9, bb⟩
  refine ⟨_, rfl, ?_⟩
  intro a hF
  replace hh4 := hh4.below bb
  replace hn5 := hn5.below bb
  replace hf6 := hf6.below bb
  replace hd5 := hd5.below bb
  replace o0 := o0.below bb
  replace bel := below_to bel bb
  clear bb
  obtain ⟨b10, ad10, n10, c10, ae10, m10, d10, rfl, hn10, hd10⟩ := Rq.shape hh9
  have hf11 := Wc.abs hn10
  refine E.call hF (r_call Tryz.func52 en52.1 en52.2 (map2 ev_c ev_c)) (rOf2_any (32) (360) _ (by decide) (by decide) (by decide) (by decide)) rfl rfl rfl rfl ?_
  rintro e w12 ⟨vv13, rfl, hh14, bb⟩
  refine ⟨_, rfl, ?_⟩
  intro a hF
  replace hh9 := hh9.below bb
  replace hn10 := hn10.below bb
  replace hf11 := hf11.below bb
  replace hd10 := hd10.below bb
  replace hh4 := hh4.below bb
  replace hn5 := hn5.below bb
  replace hf6 := hf6.below bb
  replace hd5 := hd5.below bb
  replace o0 := o0.below bb
  replace bel := below_to bel bb
  clear bb
  obtain ⟨b15, ad15, n15, c15, ae15, m15, d15, rfl, hn15, hd15⟩ := Rq.shape hh14
  have hf16 := Wc.abs hn15
  refine E.call hF (r_call Tryz.func52 en52.1 en52.2 (map2 ev_c ev_c)) (rOf2_any (1) (96) _ (by decide) (by decide) (by decide) (by decide)) rfl rfl rfl rfl ?_
  rintro e w17 ⟨vv18, rfl, hh19, bb⟩
  refine ⟨_, rfl, ?_⟩
  intro a hF
  replace hh14 := hh14.below bb
  replace hn15 := hn15.below bb
  replace hf16 := hf16.below bb
  replace hd15 := hd15.below bb
  replace hh9 := hh9.below bb
  replace hn10 := hn10.below bb
  replace hf11 := hf11.below bb
  replace hd10 := hd10.below bb
  replace hh4 := hh4.below bb
  replace hn5 := hn5.below bb
  replace hf6 := hf6.below bb
  replace hd5 := hd5.below bb
  replace o0 := o0.below bb
  replace bel := below_to bel bb
  clear bb
  obtain ⟨b20, ad20, n20, c20, ae20, m20, d20, rfl, hn20, hd20⟩ := Rq.shape hh19
  have hf21 := Wc.abs hn20
  refine E.opv hF (r_build (pair4 (hF.at 3 rfl) (hF.at 2 rfl) (hF.at 1 rfl) (hF.at 0 rfl)) (bd_Orb_0123 _ _ _ _ _ _ _ _ _ _ _ _ _ _ _ _ _ _ _ _ _ _ _ _ _ _ _ _ _)) rfl rfl rfl rfl fun a hF => ?_
  obtain ⟨w22, hr, tu, on⟩ := st_Orb (vs := [.bool b5, .slice ad5 n5 c5, .slice ae5 m5 d5, .bool b10, .slice ad10 n10 c10, .slice ae10 m10 d10, .bool b15, .slice ad15 n15 c15, .slice ae15 m15 d15, .bool b20, .slice ad20 n20 c20, .slice ae20 m20 d20]) o0 rfl rfl (ocB (ocS (ocS (ocB (ocS (ocS (ocB (ocS (ocS (ocB (ocS (ocS oc0)))))))))))) (niB (niS (niS (niB (niS (niS (niB (niS (niS (niB (niS (niS ni0)))))))))))) (o := 0) rfl
  have kp := tu.keep o0
  refine E.st hF (r_store (hF.at 5 rfl) (hF.at 0 rfl) (hr _ rfl)) rfl rfl fun a hF => ?_
  clear hr
  replace hh4 := hh4.keep kp
  replace hn5 := hn5.keep kp
  replace hf6 := hf6.keep kp
  replace hd5 := hd5.keep kp
  replace hh9 := hh9.keep kp
  replace hn10 := hn10.keep kp
  replace hf11 := hf11.keep kp
  replace hd10 := hd10.keep kp
  replace hh14 := hh14.keep kp
  replace hn15 := hn15.keep kp
  replace hf16 := hf16.keep kp
  replace hd15 := hd15.keep kp
  replace hh19 := hh19.keep kp
  replace hn20 := hn20.keep kp
  replace hf21 := hf21.keep kp
  replace hd20 := hd20.keep kp
  replace bel := tu.below bel ge0
  clear tu kp
  replace o0 := on
  clear on
  refine E.nil ?_
  refine wp_ret ?_
  refine bodyPost_ret (res_cell Tryz.results18 (hF.at 5 rfl) (ld_Orb (vs := [.bool b5, .slice ad5 n5 c5, .slice ae5 m5 d5, .bool b10, .slice ad10 n10 c10, .slice ae10 m10 d10, .bool b15, .slice ad15 n15 c15, .slice ae15 m15 d15, .bool b20, .slice ad20 n20 c20, .slice ae20 m20 d20]) o0 rfl rfl)) hF.dfr ?_
  exact ⟨_, rfl, ⟨_, _, _, _, _, _, _, _, _, _, _, _, _, _, _, _, _, _, _, _, _, _, _, _, _, _, _, _, rfl, hh4, hh9, hh14, hh19⟩, bel⟩

set_option maxHeartbeats 4000000 in
theorem oEq_any (v1 v2 : Value) (qp qa qs qc qt : Rat) (k : Nat) (w : World) (hT : TabD w) (ho : Orb w v1 qp qa qs qc) (h2 : Rq w v2 qt) (lqp : RLim qp 2) (lqa : RLim qa 2) (lqs : RLim qs 2) (lqc : RLim qc 2) (hl : RLim qt k) (hk : k ≤ 100) :
    Calls Tryz.prog 54 #[v1, v2] w (RqPost w (eqv qt qa qs qc)) := by
  obtain ⟨qb1, qx1, qn1, qk1, qy1, qm1, qd1, qb2, qx2, qn2, qk2, qy2, qm2, qd2, qb3, qx3, qn3, qk3, qy3, qm3, qd3, qb4, qx4, qn4, qk4, qy4, qm4, qd4, rfl, hr1, hr2, hr3, hr4⟩ := ho
  have ho : Orb w (.agg #[.bool qb1, .slice qx1 qn1 qk1, .slice qy1 qm1 qd1, .bool qb2, .slice qx2 qn2 qk2, .slice qy2 qm2 qd2, .bool qb3, .slice qx3 qn3 qk3, .slice qy3 qm3 qd3, .bool qb4, .slice qx4 qn4 qk4, .slice qy4 qm4 qd4]) qp qa qs qc := ⟨_, _, _, _, _, _, _, _, _, _, _, _, _, _, _, _, _, _, _, _, _, _, _, _, _, _, _, _, rfl, hr1, hr2, hr3, hr4⟩
  have bel : Below w.heap.size w w := Below.refl _ _
  refine E.enter (nt := 27) (L := [(0, .agg #[.bool qb1, .slice qx1 qn1 qk1, .slice qy1 qm1 qd1, .bool qb2, .slice qx2 qn2 qk2, .slice qy2 qm2 qd2, .bool qb3, .slice qx3 qn3 qk3, .slice qy3 qm3 qd3, .bool qb4, .slice qx4 qn4 qk4, .slice qy4 qm4 qd4]), (1, v2)]) Tryz.func54 rfl rfl rfl (args_cons (i := 0) rfl (args_cons (i := 1) rfl args_nil)) ?_
  intro a hF
  refine wp_seq ?_
  refine E.seq ?_
  obtain ⟨g2, w1, ge2, hr, bb, o2⟩ := own_box (P := Tryz.prog) (w := w) (cs := [.bool qb1, .slice qx1 qn1 qk1, .slice qy1 qm1 qd1, .bool qb2, .slice qx2 qn2 qk2, .slice qy2 qm2 qd2, .bool qb3, .slice qx3 qn3 qk3, .slice qy3 qm3 qd3, .bool qb4, .slice qx4 qn4 qk4, .slice qy4 qm4 qd4]) (v := .agg #[.bool qb1, .slice qx1 qn1 qk1, .slice qy1 qm1 qd1, .bool qb2, .slice qx2 qn2 qk2, .slice qy2 qm2 qd2, .bool qb3, .slice qx3 qn3 qk3, .slice qy3 qm3 qd3, .bool qb4, .slice qx4 qn4 qk4, .slice qy4 qm4 qd4]) 45 rfl (niB (niS (niS (niB (niS (niS (niB (niS (niS (niB (niS (niS ni0))))))))))))
  replace ge2 : w.heap.size ≤ g2 := by rw [← ge2]; exact bel.size
  refine E.opv hF (r_box (hF.at 0 rfl) hr) rfl rfl rfl rfl fun a hF => ?_
  clear hr
  replace bel := below_to bel bb
  clear bb
  obtain ⟨b2, ad2, n2, c2, ae2, m2, d2, rfl, hn2, hd2⟩ := Rq.shape h2
  have hf3 := Wc.abs hn2
  obtain ⟨g3, w4, ge3, hr, bb, o3⟩ := own_box (P := Tryz.prog) (w := w1) (cs := [.bool b2, .slice ad2 n2 c2, .slice ae2 m2 d2]) (v := .agg #[.bool b2, .slice ad2 n2 c2, .slice ae2 m2 d2]) 32 rfl (niB (niS (niS ni0)))
  have ne2_3 : g2 ≠ g3 := by rw [← ge3]; exact o2.ne_new
  replace ge3 : w.heap.size ≤ g3 := by rw [← ge3]; exact bel.size
  refine E.opv hF (r_box (hF.at 2 rfl) hr) rfl rfl rfl rfl fun a hF => ?_
  clear hr
  replace o2 := o2.below bb
  replace bel := below_to bel bb
  clear bb
  obtain ⟨g4, w5, ge4, hr, bb, o4⟩ := own_alloc (P := Tryz.prog) (w := w4) (cs := [.bool false, .slice none 0 0, .slice none 0 0]) 32 ze_Rat rfl (niB (niS (niS ni0)))
  have ne2_4 : g2 ≠ g4 := by rw [← ge4]; exact o2.ne_new
  have ne3_4 : g3 ≠ g4 := by rw [← ge4]; exact o3.ne_new
  replace ge4 : w.heap.size ≤ g4 := by rw [← ge4]; exact bel.size
  refine E.opv hF (r_alloc hr) rfl rfl rfl rfl fun a hF => ?_
  clear hr
  replace o2 := o2.below bb
  replace o3 := o3.below bb
  replace bel := below_to bel bb
  clear bb
  refine E.nil ?_
  refine wp_seq ?_
  refine E.seq ?_
  refine E.opv hF (r_load (hF.at 1 rfl) (ld_Rat (vs := [.bool b2, .slice ad2 n2 c2, .slice ae2 m2 d2]) o3 rfl rfl)) rfl rfl rfl rfl fun a hF => ?_
  refine E.opv hF (r_field (hF.at 3 rfl) (fa_Orb_1 (p := 3) rfl)) rfl rfl rfl rfl fun a hF => ?_
  refine E.opv hF (r_load (hF.at 0 rfl) (ld_Rat (vs := [.bool qb2, .slice qx2 qn2 qk2, .slice qy2 qm2 qd2]) o2 rfl rfl)) rfl rfl rfl rfl fun a hF => ?_
  refine E.call hF (r_call Tryz.func53 en53.1 en53.2 (map2 (hF.at 2 rfl) (hF.at 0 rfl))) (mOf_any _ _ (qt) (qa) k 2 _ (h2.below bel) (hr2.below bel) hl lqa (by omega) (by omega)) rfl rfl rfl rfl ?_
  rintro e w6 ⟨vv7, rfl, hh8, bb⟩
  refine ⟨_, rfl, ?_⟩
  intro a hF
  replace o2 := o2.below bb
  replace o4 := o4.below bb
  replace bel := below_to bel bb
  clear bb
  obtain ⟨b9, ad9, n9, c9, ae9, m9, d9, rfl, hn9, hd9⟩ := Rq.shape hh8
  have hf10 := Wc.abs hn9
  refine E.call hF (r_call Tryz.func98 en98.1 en98.2 (map1 (hF.at 0 rfl))) (sof_any _ _ (k + 2 + 5) _ (hT.below bel) hh8 (mof_lim hl lqa) (by omega)) rfl rfl rfl rfl ?_
  rintro e w11 ⟨vv12, rfl, hh13, bb⟩
  refine ⟨_, rfl, ?_⟩
  intro a hF
  replace o2 := o2.below bb
  replace o4 := o4.below bb
  replace bel := below_to bel bb
  clear bb
  obtain ⟨b14, ad14, n14, c14, ae14, m14, d14, rfl, hn14, hd14⟩ := Rq.shape hh13
  have hf15 := Wc.abs hn14
  obtain ⟨g5, w16, ge5, hr, bb, o5⟩ := own_alloc (P := Tryz.prog) (w := w11) (cs := [.bool false, .slice none 0 0, .slice none 0 0]) 32 ze_Rat rfl (niB (niS (niS ni0)))
  have ne2_5 : g2 ≠ g5 := by rw [← ge5]; exact o2.ne_new
  have ne4_5 : g4 ≠ g5 := by rw [← ge5]; exact o4.ne_new
  replace ge5 : w.heap.size ≤ g5 := by rw [← ge5]; exact bel.size
  refine E.opv hF (r_alloc hr) rfl rfl rfl rfl fun a hF => ?_
  clear hr
  replace hh13 := hh13.below bb
  replace hn14 := hn14.below bb
  replace hf15 := hf15.below bb
  replace hd14 := hd14.below bb
  replace o2 := o2.below bb
  replace o4 := o4.below bb
  replace bel := below_to bel bb
  clear bb
  obtain ⟨w17, hr, tu, on⟩ := st_Rat (vs := [.bool b14, .slice ad14 n14 c14, .slice ae14 m14 d14]) o5 rfl rfl (ocB (ocS (ocS oc0))) (niB (niS (niS ni0))) (o := 0) rfl
  have kp := tu.keep o5
  refine E.st hF (r_store (hF.at 0 rfl) (hF.at 1 rfl) (hr _ rfl)) rfl rfl fun a hF => ?_
  clear hr
  replace hh13 := hh13.keep kp
  replace hn14 := hn14.keep kp
  replace hf15 := hf15.keep kp
  replace hd14 := hd14.keep kp
  replace o2 := tu.own o2 ne2_5
  replace o4 := tu.own o4 ne4_5
  replace bel := tu.below bel ge5
  clear tu kp
  replace o5 := on
  clear on
  refine E.nil ?_
  refine wp_seq ?_
  refine E.drawn 9 mixed hF [12, 13, 14, 15, 16, 17, 18, 19, 6] [(fun _ v => v = .agg #[.bool b14, .slice ad14 n14 c14, .slice ae14 m14 d14]), (fun w v => Rq w v (Rat.abs (sof (mof (qt) (qa))))), (fun _ v => v = .pointer (some ⟨g2, 9, none⟩)), (fun _ v => v = .agg #[.bool qb4, .slice qx4 qn4 qk4, .slice qy4 qm4 qd4]), (fun w v => Rq w v ((Rat.abs (sof (mof (qt) (qa)))) * (qc))), (fun _ v => v = .pointer (some ⟨g2, 6, none⟩)), (fun _ v => v = .agg #[.bool qb3, .slice qx3 qn3 qk3, .slice qy3 qm3 qd3]), (fun w v => Rq w v (((Rat.abs (sof (mof (qt) (qa)))) * (qc)) * (qs))), (fun w v => ∃ g, v = .pointer (some ⟨g, 0, none⟩) ∧ w17.heap.size ≤ g ∧ Own w g [.bool false, .slice none 0 0, .slice none 0 0])] [8] (by decide +kernel) (by decide +kernel) rfl rfl rfl ⟨(Mb.eq _), (fun _ _ _ h hb => h.below hb), (Mb.eq _), (Mb.eq _), (fun _ _ _ h hb => h.below hb), (Mb.eq _), (Mb.eq _), (fun _ _ _ h hb => h.below hb), (fun _ _ _ ⟨g, e, l, o⟩ hb => ⟨g, e, l, o.below hb⟩), trivial⟩ ⟨fun _ _ ⟨g, e, _, o⟩ => ⟨g, e, o.lt⟩, trivial⟩ ⟨?_, ?_, ?_, ?_, ?_, ?_, ?_, ?_, ?_, trivial⟩ ?_
  · intro a' w' hF' hb hd
    exact dv0 (r_load (hF'.at 0 rfl) (ld_Rat (vs := [.bool b14, .slice ad14 n14 c14, .slice ae14 m14 d14]) (o5.below hb) rfl rfl)) rfl rfl rfl
  · intro a' w' hF' hb hd
    have e12 := sHe hd 0 12 rfl rfl rfl rfl
    exact dc0 (r_call Tryz.func99 en99.1 en99.2 (map1 e12)) (rAbs_any _ _ _ (hh13.below hb)) rfl rfl
  · intro a' w' hF' hb hd
    exact dv0 (r_field (hF'.at 8 rfl) (fa_Orb_3 (p := 9) rfl)) rfl rfl rfl
  · intro a' w' hF' hb hd
    have e14 := sHe hd 0 14 rfl rfl rfl rfl
    exact dv0 (r_load e14 (ld_Rat (vs := [.bool qb4, .slice qx4 qn4 qk4, .slice qy4 qm4 qd4]) (o2.below hb) rfl rfl)) rfl rfl rfl
  · intro a' w' hF' hb hd
    obtain ⟨v13_0, e13, h13_1⟩ := sH hd 0 13 rfl rfl rfl rfl
    have e15 := sHe hd 1 15 rfl rfl rfl rfl
    exact dc0 (r_call Tryz.func97 en97.1 en97.2 (map2 e13 e15)) (rMul_any _ _ _ (qc) (max ((k + 2 + 5) + 12) 2) _ h13_1 (hr4.below (below_to bel hb)) ((rlim_abs (sof_lim2 (mof_lim hl lqa))).up _ (by omega)) (lqc.up _ (by omega)) (by omega)) rfl rfl
  · intro a' w' hF' hb hd
    exact dv0 (r_field (hF'.at 8 rfl) (fa_Orb_2 (p := 6) rfl)) rfl rfl rfl
  · intro a' w' hF' hb hd
    have e17 := sHe hd 0 17 rfl rfl rfl rfl
    exact dv0 (r_load e17 (ld_Rat (vs := [.bool qb3, .slice qx3 qn3 qk3, .slice qy3 qm3 qd3]) (o2.below hb) rfl rfl)) rfl rfl rfl
  · intro a' w' hF' hb hd
    obtain ⟨v16_0, e16, h16_1⟩ := sH hd 0 16 rfl rfl rfl rfl
    have e18 := sHe hd 1 18 rfl rfl rfl rfl
    exact dc0 (r_call Tryz.func97 en97.1 en97.2 (map2 e16 e18)) (rMul_any _ _ _ (qs) (max (((k + 2 + 5) + 12) + 2) 2) _ h16_1 (hr3.below (below_to bel hb)) ((rlim_mul (rlim_abs (sof_lim2 (mof_lim hl lqa))) lqc).up _ (by omega)) (lqs.up _ (by omega)) (by omega)) rfl rfl
  · intro a' w' hF' hb hd
    obtain ⟨g, w2, ge, hr, bb, on⟩ := own_alloc (P := Tryz.prog) (w := w') (cs := [.bool false, .slice none 0 0, .slice none 0 0]) 32 ze_Rat rfl (niB (niS (niS ni0)))
    subst ge
    exact if_does (wanted_free rfl) (Does.vals (r_alloc hr) ⟨⟨_, rfl, hb.size, on⟩, bb, fun _ => rfl⟩)
  intro a w18 hF bb hall hne
  obtain ⟨vv19, e19, hh20⟩ := sS hall 7 19 rfl rfl
  obtain ⟨g6, e6, ge6, o6⟩ : ∃ g, a.tmps.getD 6 undef = .pointer (some ⟨g, 0, none⟩) ∧ w17.heap.size ≤ g ∧ Own w18 g [.bool false, .slice none 0 0, .slice none 0 0] := hall 8 6 rfl
  have ne2_6 : g2 ≠ g6 := Nat.ne_of_lt (Nat.lt_of_lt_of_le o2.lt ge6)
  have ne4_6 : g4 ≠ g6 := Nat.ne_of_lt (Nat.lt_of_lt_of_le o4.lt ge6)
  have ne5_6 : g5 ≠ g6 := Nat.ne_of_lt (Nat.lt_of_lt_of_le o5.lt ge6)
  replace ge6 : w.heap.size ≤ g6 := Nat.le_trans bel.size ge6
  clear hall hne
  replace hf15 := hf15.below bb
  replace hd14 := hd14.below bb
  replace hh13 := hh13.below bb
  replace hn14 := hn14.below bb
  replace o2 := o2.below bb
  replace o4 := o4.below bb
  replace o5 := o5.below bb
  replace bel := below_to bel bb
  clear bb
  obtain ⟨b21, ad21, n21, c21, ae21, m21, d21, rfl, hn21, hd21⟩ := Rq.shape hh20
  have hf22 := Wc.abs hn21
  replace hF := hF.add e19
  clear e19
  replace hF := hF.add e6
  clear e6
  obtain ⟨w23, hr, tu, on⟩ := st_Rat (vs := [.bool b21, .slice ad21 n21 c21, .slice ae21 m21 d21]) o6 rfl rfl (ocB (ocS (ocS oc0))) (niB (niS (niS ni0))) (o := 0) rfl
  have kp := tu.keep o6
  refine E.st hF (r_store (hF.at 0 rfl) (hF.at 1 rfl) (hr _ rfl)) rfl rfl fun a hF => ?_
  clear hr
  replace hf15 := hf15.keep kp
  replace hd14 := hd14.keep kp
  replace hh13 := hh13.keep kp
  replace hn14 := hn14.keep kp
  replace hh20 := hh20.keep kp
  replace hn21 := hn21.keep kp
  replace hf22 := hf22.keep kp
  replace hd21 := hd21.keep kp
  replace o2 := tu.own o2 ne2_6
  replace o4 := tu.own o4 ne4_6
  replace o5 := tu.own o5 ne5_6
  replace bel := tu.below bel ge6
  clear tu kp
  replace o6 := on
  clear on
  refine E.nil ?_
  refine wp_seq ?_
  refine E.drawn 7 mixed hF [20, 21, 22, 23, 24, 25, 26] [(fun _ v => v = .agg #[.bool b14, .slice ad14 n14 c14, .slice ae14 m14 d14]), (fun _ v => v = .pointer (some ⟨g2, 6, none⟩)), (fun _ v => v = .agg #[.bool qb3, .slice qx3 qn3 qk3, .slice qy3 qm3 qd3]), (fun _ v => v = .agg #[.bool b21, .slice ad21 n21 c21, .slice ae21 m21 d21]), (fun w v => Rq w v ((qs) - (((Rat.abs (sof (mof (qt) (qa)))) * (qc)) * (qs)))), (fun w v => Rq w v ((sof (mof (qt) (qa))) * ((qs) - (((Rat.abs (sof (mof (qt) (qa)))) * (qc)) * (qs))))), (fun w v => Rq w v (arcv ((sof (mof (qt) (qa))) * ((qs) - (((Rat.abs (sof (mof (qt) (qa)))) * (qc)) * (qs))))))] [] (by decide +kernel) (by decide +kernel) rfl rfl rfl ⟨(Mb.eq _), (Mb.eq _), (Mb.eq _), (Mb.eq _), (fun _ _ _ h hb => h.below hb), (fun _ _ _ h hb => h.below hb), (fun _ _ _ h hb => h.below hb), trivial⟩ trivial ⟨?_, ?_, ?_, ?_, ?_, ?_, ?_, trivial⟩ ?_
  · intro a' w' hF' hb hd
    exact dv0 (r_load (hF'.at 2 rfl) (ld_Rat (vs := [.bool b14, .slice ad14 n14 c14, .slice ae14 m14 d14]) (o5.below hb) rfl rfl)) rfl rfl rfl
  · intro a' w' hF' hb hd
    exact dv0 (r_field (hF'.at 10 rfl) (fa_Orb_2 (p := 6) rfl)) rfl rfl rfl
  · intro a' w' hF' hb hd
    have e21 := sHe hd 0 21 rfl rfl rfl rfl
    exact dv0 (r_load e21 (ld_Rat (vs := [.bool qb3, .slice qx3 qn3 qk3, .slice qy3 qm3 qd3]) (o2.below hb) rfl rfl)) rfl rfl rfl
  · intro a' w' hF' hb hd
    exact dv0 (r_load (hF'.at 0 rfl) (ld_Rat (vs := [.bool b21, .slice ad21 n21 c21, .slice ae21 m21 d21]) (o6.below hb) rfl rfl)) rfl rfl rfl
  · intro a' w' hF' hb hd
    have e22 := sHe hd 0 22 rfl rfl rfl rfl
    have e23 := sHe hd 1 23 rfl rfl rfl rfl
    exact dc0 (r_call Tryz.func47 en47.1 en47.2 (map2 e22 e23)) (rSub_any _ _ (qs) _ (max 2 ((((k + 2 + 5) + 12) + 2) + 2)) _ (hr3.below (below_to bel hb)) (hh20.below hb) (lqs.up _ (by omega)) ((rlim_mul (rlim_mul (rlim_abs (sof_lim2 (mof_lim hl lqa))) lqc) lqs).up _ (by omega)) (by omega)) rfl rfl
  · intro a' w' hF' hb hd
    have e20 := sHe hd 0 20 rfl rfl rfl rfl
    obtain ⟨v24_0, e24, h24_1⟩ := sH hd 1 24 rfl rfl rfl rfl
    exact dc0 (r_call Tryz.func97 en97.1 en97.2 (map2 e20 e24)) (rMul_any _ _ _ ((qs) - (((Rat.abs _) * (qc)) * (qs))) (max ((k + 2 + 5) + 12) (2 + ((((k + 2 + 5) + 12) + 2) + 2) + 1)) _ (hh13.below hb) h24_1 ((sof_lim2 (mof_lim hl lqa)).up _ (by omega)) ((rlim_sub lqs (rlim_mul (rlim_mul (rlim_abs (sof_lim2 (mof_lim hl lqa))) lqc) lqs)).up _ (by omega)) (by omega)) rfl rfl
  · intro a' w' hF' hb hd
    obtain ⟨v25_0, e25, h25_1⟩ := sH hd 0 25 rfl rfl rfl rfl
    exact dc0 (r_call Tryz.func100 en100.1 en100.2 (map1 e25)) (sarc_any _ _ (((k + 2 + 5) + 12) + (2 + ((((k + 2 + 5) + 12) + 2) + 2) + 1)) _ (hT.below (below_to bel hb)) h25_1 (rlim_mul (sof_lim2 (mof_lim hl lqa)) (rlim_sub lqs (rlim_mul (rlim_mul (rlim_abs (sof_lim2 (mof_lim hl lqa))) lqc) lqs))) (by omega)) rfl rfl
  intro a w24 hF bb hall hne
  obtain ⟨vv25, e26, hh26⟩ := sS hall 6 26 rfl rfl
  clear hall hne
  replace o4 := o4.below bb
  replace bel := below_to bel bb
  clear bb
  obtain ⟨b27, ad27, n27, c27, ae27, m27, d27, rfl, hn27, hd27⟩ := Rq.shape hh26
  have hf28 := Wc.abs hn27
  replace hF := hF.add e26
  clear e26
  obtain ⟨w29, hr, tu, on⟩ := st_Rat (vs := [.bool b27, .slice ad27 n27 c27, .slice ae27 m27 d27]) o4 rfl rfl (ocB (ocS (ocS oc0))) (niB (niS (niS ni0))) (o := 0) rfl
  have kp := tu.keep o4
  refine E.st hF (r_store (hF.at 9 rfl) (hF.at 0 rfl) (hr _ rfl)) rfl rfl fun a hF => ?_
  clear hr
  replace hh26 := hh26.keep kp
  replace hn27 := hn27.keep kp
  replace hf28 := hf28.keep kp
  replace hd27 := hd27.keep kp
  replace bel := tu.below bel ge4
  clear tu kp
  replace o4 := on
  clear on
  refine E.nil ?_
  refine wp_ret ?_
  refine bodyPost_ret (res_cell Tryz.results54 (hF.at 9 rfl) (ld_Rat (vs := [.bool b27, .slice ad27 n27 c27, .slice ae27 m27 d27]) o4 rfl rfl)) hF.dfr ?_
  exact ⟨_, rfl, hh26, bel⟩

set_option maxHeartbeats 1000000 in
theorem oAround_any (v1 : Value) (qt : Rat) (k : Nat) (w : World) (h1 : Rq w v1 qt) (hl : RLim qt k) (hk : k ≤ 1000) :
    Calls Tryz.prog 46 #[v1] w (RqPost w (rmod qt ((360 : Int) : Rat))) := by
  have bel : Below w.heap.size w w := Below.refl _ _
  refine E.enter (nt := 6) (L := [(0, v1)]) Tryz.func46 rfl rfl rfl (args_cons (i := 0) rfl args_nil) ?_
  intro a hF
  refine wp_seq ?_
  refine E.seq ?_
  obtain ⟨b1, ad1, n1, c1, ae1, m1, d1, rfl, hn1, hd1⟩ := Rq.shape h1
  have hf2 := Wc.abs hn1
  obtain ⟨g1, w3, ge1, hr, bb, o1⟩ := own_box (P := Tryz.prog) (w := w) (cs := [.bool b1, .slice ad1 n1 c1, .slice ae1 m1 d1]) (v := .agg #[.bool b1, .slice ad1 n1 c1, .slice ae1 m1 d1]) 32 rfl (niB (niS (niS ni0)))
  replace ge1 : w.heap.size ≤ g1 := by rw [← ge1]; exact bel.size
  refine E.opv hF (r_box (hF.at 0 rfl) hr) rfl rfl rfl rfl fun a hF => ?_
  clear hr
  replace bel := below_to bel bb
  clear bb
  obtain ⟨g2, w4, ge2, hr, bb, o2⟩ := own_alloc (P := Tryz.prog) (w := w3) (cs := [.bool false, .slice none 0 0, .slice none 0 0]) 32 ze_Rat rfl (niB (niS (niS ni0)))
  have ne1_2 : g1 ≠ g2 := by rw [← ge2]; exact o1.ne_new
  replace ge2 : w.heap.size ≤ g2 := by rw [← ge2]; exact bel.size
  refine E.opv hF (r_alloc hr) rfl rfl rfl rfl fun a hF => ?_
  clear hr
  replace o1 := o1.below bb
  replace bel := below_to bel bb
  clear bb
  refine E.nil ?_
  refine wp_seq ?_
  refine E.drawn 3 mixed hF [3, 4, 5] [(fun _ v => v = .agg #[.bool b1, .slice ad1 n1 c1, .slice ae1 m1 d1]), (fun w v => Rq w v (((360 : Int) : Rat))), (fun w v => Rq w v (rmod (qt) (((360 : Int) : Rat))))] [] (by decide +kernel) (by decide +kernel) rfl rfl rfl ⟨(Mb.eq _), (fun _ _ _ h hb => h.below hb), (fun _ _ _ h hb => h.below hb), trivial⟩ trivial ⟨?_, ?_, ?_, trivial⟩ ?_
  · intro a' w' hF' hb hd
    exact dv0 (r_load (hF'.at 1 rfl) (ld_Rat (vs := [.bool b1, .slice ad1 n1 c1, .slice ae1 m1 d1]) (o1.below hb) rfl rfl)) rfl rfl rfl
  · intro a' w' hF' hb hd
    exact dc0 (r_call Tryz.func62 en62.1 en62.2 (map1 ev_c)) (rWhole_any (360) _ (by decide) (by decide)) rfl rfl
  · intro a' w' hF' hb hd
    have e3 := sHe hd 0 3 rfl rfl rfl rfl
    obtain ⟨v4_0, e4, h4_1⟩ := sH hd 1 4 rfl rfl rfl rfl
    exact dc0 (r_call Tryz.func87 en87.1 en87.2 (map2 e3 e4)) (cMod_any _ _ (qt) _ k 2 _ (h1.below (below_to bel hb)) h4_1 hl (rlim_int (limz_64 (by decide) (by decide)) (by omega)) (by omega) (by omega)) rfl rfl
  intro a w5 hF bb hall hne
  obtain ⟨vv6, e5, hh7⟩ := sS hall 2 5 rfl rfl
  clear hall hne
  replace o2 := o2.below bb
  replace bel := below_to bel bb
  clear bb
  obtain ⟨b8, ad8, n8, c8, ae8, m8, d8, rfl, hn8, hd8⟩ := Rq.shape hh7
  have hf9 := Wc.abs hn8
  replace hF := hF.add e5
  clear e5
  obtain ⟨w10, hr, tu, on⟩ := st_Rat (vs := [.bool b8, .slice ad8 n8 c8, .slice ae8 m8 d8]) o2 rfl rfl (ocB (ocS (ocS oc0))) (niB (niS (niS ni0))) (o := 0) rfl
  have kp := tu.keep o2
  refine E.st hF (r_store (hF.at 1 rfl) (hF.at 0 rfl) (hr _ rfl)) rfl rfl fun a hF => ?_
  clear hr
  replace hh7 := hh7.keep kp
  replace hn8 := hn8.keep kp
  replace hf9 := hf9.keep kp
  replace hd8 := hd8.keep kp
  replace bel := tu.below bel ge2
  clear tu kp
  replace o2 := on
  clear on
  refine E.nil ?_
  refine wp_ret ?_
  refine bodyPost_ret (res_cell Tryz.results46 (hF.at 1 rfl) (ld_Rat (vs := [.bool b8, .slice ad8 n8 c8, .slice ae8 m8 d8]) o2 rfl rfl)) hF.dfr ?_
  exact ⟨_, rfl, hh7, bel⟩

set_option maxHeartbeats 4000000 in
theorem oAt_any (v1 v2 : Value) (qp qa qs qc qt : Rat) (k : Nat) (w : World) (hT : TabD w) (ho : Orb w v1 qp qa qs qc) (h2 : Rq w v2 qt) (lqp : RLim qp 2) (lqa : RLim qa 2) (lqs : RLim qs 2) (lqc : RLim qc 2) (hl : RLim qt k) (hk : k ≤ 100) :
    Calls Tryz.prog 16 #[v1, v2] w (RqPost w (atv qt qp qa qs qc)) := by
  obtain ⟨qb1, qx1, qn1, qk1, qy1, qm1, qd1, qb2, qx2, qn2, qk2, qy2, qm2, qd2, qb3, qx3, qn3, qk3, qy3, qm3, qd3, qb4, qx4, qn4, qk4, qy4, qm4, qd4, rfl, hr1, hr2, hr3, hr4⟩ := ho
  have ho : Orb w (.agg #[.bool qb1, .slice qx1 qn1 qk1, .slice qy1 qm1 qd1, .bool qb2, .slice qx2 qn2 qk2, .slice qy2 qm2 qd2, .bool qb3, .slice qx3 qn3 qk3, .slice qy3 qm3 qd3, .bool qb4, .slice qx4 qn4 qk4, .slice qy4 qm4 qd4]) qp qa qs qc := ⟨_, _, _, _, _, _, _, _, _, _, _, _, _, _, _, _, _, _, _, _, _, _, _, _, _, _, _, _, rfl, hr1, hr2, hr3, hr4⟩
  have bel : Below w.heap.size w w := Below.refl _ _
  refine E.enter (nt := 14) (L := [(0, .agg #[.bool qb1, .slice qx1 qn1 qk1, .slice qy1 qm1 qd1, .bool qb2, .slice qx2 qn2 qk2, .slice qy2 qm2 qd2, .bool qb3, .slice qx3 qn3 qk3, .slice qy3 qm3 qd3, .bool qb4, .slice qx4 qn4 qk4, .slice qy4 qm4 qd4]), (1, v2)]) Tryz.func16 rfl rfl rfl (args_cons (i := 0) rfl (args_cons (i := 1) rfl args_nil)) ?_
  intro a hF
  refine wp_seq ?_
  refine E.seq ?_
  obtain ⟨g2, w1, ge2, hr, bb, o2⟩ := own_box (P := Tryz.prog) (w := w) (cs := [.bool qb1, .slice qx1 qn1 qk1, .slice qy1 qm1 qd1, .bool qb2, .slice qx2 qn2 qk2, .slice qy2 qm2 qd2, .bool qb3, .slice qx3 qn3 qk3, .slice qy3 qm3 qd3, .bool qb4, .slice qx4 qn4 qk4, .slice qy4 qm4 qd4]) (v := .agg #[.bool qb1, .slice qx1 qn1 qk1, .slice qy1 qm1 qd1, .bool qb2, .slice qx2 qn2 qk2, .slice qy2 qm2 qd2, .bool qb3, .slice qx3 qn3 qk3, .slice qy3 qm3 qd3, .bool qb4, .slice qx4 qn4 qk4, .slice qy4 qm4 qd4]) 45 rfl (niB (niS (niS (niB (niS (niS (niB (niS (niS (niB (niS (niS ni0))))))))))))
  replace ge2 : w.heap.size ≤ g2 := by rw [← ge2]; exact bel.size
  refine E.opv hF (r_box (hF.at 0 rfl) hr) rfl rfl rfl rfl fun a hF => ?_
  clear hr
  replace bel := below_to bel bb
  clear bb
  obtain ⟨b2, ad2, n2, c2, ae2, m2, d2, rfl, hn2, hd2⟩ := Rq.shape h2
  have hf3 := Wc.abs hn2
  obtain ⟨g3, w4, ge3, hr, bb, o3⟩ := own_box (P := Tryz.prog) (w := w1) (cs := [.bool b2, .slice ad2 n2 c2, .slice ae2 m2 d2]) (v := .agg #[.bool b2, .slice ad2 n2 c2, .slice ae2 m2 d2]) 32 rfl (niB (niS (niS ni0)))
  have ne2_3 : g2 ≠ g3 := by rw [← ge3]; exact o2.ne_new
  replace ge3 : w.heap.size ≤ g3 := by rw [← ge3]; exact bel.size
  refine E.opv hF (r_box (hF.at 2 rfl) hr) rfl rfl rfl rfl fun a hF => ?_
  clear hr
  replace o2 := o2.below bb
  replace bel := below_to bel bb
  clear bb
  obtain ⟨g4, w5, ge4, hr, bb, o4⟩ := own_alloc (P := Tryz.prog) (w := w4) (cs := [.bool false, .slice none 0 0, .slice none 0 0]) 32 ze_Rat rfl (niB (niS (niS ni0)))
  have ne2_4 : g2 ≠ g4 := by rw [← ge4]; exact o2.ne_new
  have ne3_4 : g3 ≠ g4 := by rw [← ge4]; exact o3.ne_new
  replace ge4 : w.heap.size ≤ g4 := by rw [← ge4]; exact bel.size
  refine E.opv hF (r_alloc hr) rfl rfl rfl rfl fun a hF => ?_
  clear hr
  replace o2 := o2.below bb
  replace o3 := o3.below bb
  replace bel := below_to bel bb
  clear bb
  refine E.nil ?_
  refine wp_seq ?_
  refine E.drawn 9 mixed hF [5, 6, 7, 8, 9, 10, 11, 12, 13] [(fun _ v => v = .agg #[.bool b2, .slice ad2 n2 c2, .slice ae2 m2 d2]), (fun _ v => v = .pointer (some ⟨g2, 0, none⟩)), (fun _ v => v = .agg #[.bool qb1, .slice qx1 qn1 qk1, .slice qy1 qm1 qd1]), (fun w v => Rq w v (mof (qt) (qp))), (fun _ v => v = .agg #[.bool qb1, .slice qx1 qn1 qk1, .slice qy1 qm1 qd1, .bool qb2, .slice qx2 qn2 qk2, .slice qy2 qm2 qd2, .bool qb3, .slice qx3 qn3 qk3, .slice qy3 qm3 qd3, .bool qb4, .slice qx4 qn4 qk4, .slice qy4 qm4 qd4]), (fun _ v => v = .agg #[.bool b2, .slice ad2 n2 c2, .slice ae2 m2 d2]), (fun w v => Rq w v (eqv (qt) qa qs qc)), (fun w v => Rq w v ((mof (qt) (qp)) - (eqv (qt) qa qs qc))), (fun w v => Rq w v (rmod ((mof (qt) (qp)) - (eqv (qt) qa qs qc)) ((360 : Int) : Rat)))] [] (by decide +kernel) (by decide +kernel) rfl rfl rfl ⟨(Mb.eq _), (Mb.eq _), (Mb.eq _), (fun _ _ _ h hb => h.below hb), (Mb.eq _), (Mb.eq _), (fun _ _ _ h hb => h.below hb), (fun _ _ _ h hb => h.below hb), (fun _ _ _ h hb => h.below hb), trivial⟩ trivial ⟨?_, ?_, ?_, ?_, ?_, ?_, ?_, ?_, ?_, trivial⟩ ?_
  · intro a' w' hF' hb hd
    exact dv0 (r_load (hF'.at 1 rfl) (ld_Rat (vs := [.bool b2, .slice ad2 n2 c2, .slice ae2 m2 d2]) (o3.below hb) rfl rfl)) rfl rfl rfl
  · intro a' w' hF' hb hd
    exact dv0 (r_field (hF'.at 2 rfl) (fa_Orb_0 (p := 0) rfl)) rfl rfl rfl
  · intro a' w' hF' hb hd
    have e6 := sHe hd 0 6 rfl rfl rfl rfl
    exact dv0 (r_load e6 (ld_Rat (vs := [.bool qb1, .slice qx1 qn1 qk1, .slice qy1 qm1 qd1]) (o2.below hb) rfl rfl)) rfl rfl rfl
  · intro a' w' hF' hb hd
    have e5 := sHe hd 0 5 rfl rfl rfl rfl
    have e7 := sHe hd 1 7 rfl rfl rfl rfl
    exact dc0 (r_call Tryz.func53 en53.1 en53.2 (map2 e5 e7)) (mOf_any _ _ (qt) (qp) k 2 _ (h2.below (below_to bel hb)) (hr1.below (below_to bel hb)) hl lqp (by omega) (by omega)) rfl rfl
  · intro a' w' hF' hb hd
    exact dv0 (r_load (hF'.at 2 rfl) (ld_Orb (vs := [.bool qb1, .slice qx1 qn1 qk1, .slice qy1 qm1 qd1, .bool qb2, .slice qx2 qn2 qk2, .slice qy2 qm2 qd2, .bool qb3, .slice qx3 qn3 qk3, .slice qy3 qm3 qd3, .bool qb4, .slice qx4 qn4 qk4, .slice qy4 qm4 qd4]) (o2.below hb) rfl rfl)) rfl rfl rfl
  · intro a' w' hF' hb hd
    exact dv0 (r_load (hF'.at 1 rfl) (ld_Rat (vs := [.bool b2, .slice ad2 n2 c2, .slice ae2 m2 d2]) (o3.below hb) rfl rfl)) rfl rfl rfl
  · intro a' w' hF' hb hd
    have e9 := sHe hd 0 9 rfl rfl rfl rfl
    have e10 := sHe hd 1 10 rfl rfl rfl rfl
    exact dc0 (r_call Tryz.func54 en54.1 en54.2 (map2 e9 e10)) (oEq_any _ _ qp qa qs qc (qt) k _ (hT.below (below_to bel hb)) (ho.below (below_to bel hb)) (h2.below (below_to bel hb)) lqp lqa lqs lqc hl (by omega)) rfl rfl
  · intro a' w' hF' hb hd
    obtain ⟨v8_0, e8, h8_1⟩ := sH hd 0 8 rfl rfl rfl rfl
    obtain ⟨v11_0, e11, h11_1⟩ := sH hd 1 11 rfl rfl rfl rfl
    exact dc0 (r_call Tryz.func47 en47.1 en47.2 (map2 e8 e11)) (rSub_any _ _ _ _ (max (k + 2 + 5) (2 * k + 2 * 2 + 2 * 2 + 2 + 60)) _ h8_1 h11_1 ((mof_lim hl lqp).up _ (by omega)) ((eqv_lim hl lqa lqs lqc).up _ (by omega)) (by omega)) rfl rfl
  · intro a' w' hF' hb hd
    obtain ⟨v12_0, e12, h12_1⟩ := sH hd 0 12 rfl rfl rfl rfl
    exact dc0 (r_call Tryz.func46 en46.1 en46.2 (map1 e12)) (oAround_any _ _ ((k + 2 + 5) + (2 * k + 2 * 2 + 2 * 2 + 2 + 60) + 1) _ h12_1 (rlim_sub (mof_lim hl lqp) (eqv_lim hl lqa lqs lqc)) (by omega)) rfl rfl
  intro a w6 hF bb hall hne
  obtain ⟨vv7, e13, hh8⟩ := sS hall 8 13 rfl rfl
  clear hall hne
  replace o4 := o4.below bb
  replace bel := below_to bel bb
  clear bb
  obtain ⟨b9, ad9, n9, c9, ae9, m9, d9, rfl, hn9, hd9⟩ := Rq.shape hh8
  have hf10 := Wc.abs hn9
  replace hF := hF.add e13
  clear e13
  obtain ⟨w11, hr, tu, on⟩ := st_Rat (vs := [.bool b9, .slice ad9 n9 c9, .slice ae9 m9 d9]) o4 rfl rfl (ocB (ocS (ocS oc0))) (niB (niS (niS ni0))) (o := 0) rfl
  have kp := tu.keep o4
  refine E.st hF (r_store (hF.at 1 rfl) (hF.at 0 rfl) (hr _ rfl)) rfl rfl fun a hF => ?_
  clear hr
  replace hh8 := hh8.keep kp
  replace hn9 := hn9.keep kp
  replace hf10 := hf10.keep kp
  replace hd9 := hd9.keep kp
  replace bel := tu.below bel ge4
  clear tu kp
  replace o4 := on
  clear on
  refine E.nil ?_
  refine wp_ret ?_
  refine bodyPost_ret (res_cell Tryz.results16 (hF.at 1 rfl) (ld_Rat (vs := [.bool b9, .slice ad9 n9 c9, .slice ae9 m9 d9]) o4 rfl rfl)) hF.dfr ?_
  exact ⟨_, rfl, hh8, bel⟩

set_option maxHeartbeats 1000000 in
theorem oSun_any (v1 : Value) (qt : Rat) (k : Nat) (w : World) (hT : TabD w) (h1 : Rq w v1 qt) (hl : RLim qt k) (hk : k ≤ 100) :
    Calls Tryz.prog 9 #[v1] w (RqPost w (sunV qt)) := by
  have bel : Below w.heap.size w w := Below.refl _ _
  refine E.enter (nt := 6) (L := [(0, v1)]) Tryz.func9 rfl rfl rfl (args_cons (i := 0) rfl args_nil) ?_
  intro a hF
  refine wp_seq ?_
  refine E.seq ?_
  obtain ⟨b1, ad1, n1, c1, ae1, m1, d1, rfl, hn1, hd1⟩ := Rq.shape h1
  have hf2 := Wc.abs hn1
  obtain ⟨g1, w3, ge1, hr, bb, o1⟩ := own_box (P := Tryz.prog) (w := w) (cs := [.bool b1, .slice ad1 n1 c1, .slice ae1 m1 d1]) (v := .agg #[.bool b1, .slice ad1 n1 c1, .slice ae1 m1 d1]) 32 rfl (niB (niS (niS ni0)))
  replace ge1 : w.heap.size ≤ g1 := by rw [← ge1]; exact bel.size
  refine E.opv hF (r_box (hF.at 0 rfl) hr) rfl rfl rfl rfl fun a hF => ?_
  clear hr
  replace bel := below_to bel bb
  clear bb
  obtain ⟨g2, w4, ge2, hr, bb, o2⟩ := own_alloc (P := Tryz.prog) (w := w3) (cs := [.bool false, .slice none 0 0, .slice none 0 0]) 32 ze_Rat rfl (niB (niS (niS ni0)))
  have ne1_2 : g1 ≠ g2 := by rw [← ge2]; exact o1.ne_new
  replace ge2 : w.heap.size ≤ g2 := by rw [← ge2]; exact bel.size
  refine E.opv hF (r_alloc hr) rfl rfl rfl rfl fun a hF => ?_
  clear hr
  replace o1 := o1.below bb
  replace bel := below_to bel bb
  clear bb
  refine E.nil ?_
  refine wp_seq ?_
  refine E.drawn 3 mixed hF [3, 4, 5] [(fun w v => Orb w v pyr pay ssz sch), (fun _ v => v = .agg #[.bool b1, .slice ad1 n1 c1, .slice ae1 m1 d1]), (fun w v => Rq w v (sunV (qt)))] [] (by decide +kernel) (by decide +kernel) rfl rfl rfl ⟨(fun _ _ _ h hb => h.below hb), (Mb.eq _), (fun _ _ _ h hb => h.below hb), trivial⟩ trivial ⟨?_, ?_, ?_, trivial⟩ ?_
  · intro a' w' hF' hb hd
    exact dc0 (r_call Tryz.func15 en15.1 en15.2 map0) (oSunOrbit_any _) rfl rfl
  · intro a' w' hF' hb hd
    exact dv0 (r_load (hF'.at 1 rfl) (ld_Rat (vs := [.bool b1, .slice ad1 n1 c1, .slice ae1 m1 d1]) (o1.below hb) rfl rfl)) rfl rfl rfl
  · intro a' w' hF' hb hd
    obtain ⟨v3_0, e3, h3_1⟩ := sH hd 0 3 rfl rfl rfl rfl
    have e4 := sHe hd 1 4 rfl rfl rfl rfl
    exact dc0 (r_call Tryz.func16 en16.1 en16.2 (map2 e3 e4)) (oAt_any _ _ pyr pay ssz sch (qt) k _ (hT.below (below_to bel hb)) h3_1 (h1.below (below_to bel hb)) pyr_lim pay_lim ssz_lim sch_lim hl (by omega)) rfl rfl
  intro a w5 hF bb hall hne
  obtain ⟨vv6, e5, hh7⟩ := sS hall 2 5 rfl rfl
  clear hall hne
  replace o2 := o2.below bb
  replace bel := below_to bel bb
  clear bb
  obtain ⟨b8, ad8, n8, c8, ae8, m8, d8, rfl, hn8, hd8⟩ := Rq.shape hh7
  have hf9 := Wc.abs hn8
  replace hF := hF.add e5
  clear e5
  obtain ⟨w10, hr, tu, on⟩ := st_Rat (vs := [.bool b8, .slice ad8 n8 c8, .slice ae8 m8 d8]) o2 rfl rfl (ocB (ocS (ocS oc0))) (niB (niS (niS ni0))) (o := 0) rfl
  have kp := tu.keep o2
  refine E.st hF (r_store (hF.at 1 rfl) (hF.at 0 rfl) (hr _ rfl)) rfl rfl fun a hF => ?_
  clear hr
  replace hh7 := hh7.keep kp
  replace hn8 := hn8.keep kp
  replace hf9 := hf9.keep kp
  replace hd8 := hd8.keep kp
  replace bel := tu.below bel ge2
  clear tu kp
  replace o2 := on
  clear on
  refine E.nil ?_
  refine wp_ret ?_
  refine bodyPost_ret (res_cell Tryz.results9 (hF.at 1 rfl) (ld_Rat (vs := [.bool b8, .slice ad8 n8 c8, .slice ae8 m8 d8]) o2 rfl rfl)) hF.dfr ?_
  exact ⟨_, rfl, hh7, bel⟩

set_option maxHeartbeats 1000000 in
theorem oMoon_any (v1 : Value) (qt : Rat) (k : Nat) (w : World) (hT : TabD w) (h1 : Rq w v1 qt) (hl : RLim qt k) (hk : k ≤ 100) :
    Calls Tryz.prog 11 #[v1] w (RqPost w (moonV qt)) := by
  have bel : Below w.heap.size w w := Below.refl _ _
  refine E.enter (nt := 6) (L := [(0, v1)]) Tryz.func11 rfl rfl rfl (args_cons (i := 0) rfl args_nil) ?_
  intro a hF
  refine wp_seq ?_
  refine E.seq ?_
  obtain ⟨b1, ad1, n1, c1, ae1, m1, d1, rfl, hn1, hd1⟩ := Rq.shape h1
  have hf2 := Wc.abs hn1
  obtain ⟨g1, w3, ge1, hr, bb, o1⟩ := own_box (P := Tryz.prog) (w := w) (cs := [.bool b1, .slice ad1 n1 c1, .slice ae1 m1 d1]) (v := .agg #[.bool b1, .slice ad1 n1 c1, .slice ae1 m1 d1]) 32 rfl (niB (niS (niS ni0)))
  replace ge1 : w.heap.size ≤ g1 := by rw [← ge1]; exact bel.size
  refine E.opv hF (r_box (hF.at 0 rfl) hr) rfl rfl rfl rfl fun a hF => ?_
  clear hr
  replace bel := below_to bel bb
  clear bb
  obtain ⟨g2, w4, ge2, hr, bb, o2⟩ := own_alloc (P := Tryz.prog) (w := w3) (cs := [.bool false, .slice none 0 0, .slice none 0 0]) 32 ze_Rat rfl (niB (niS (niS ni0)))
  have ne1_2 : g1 ≠ g2 := by rw [← ge2]; exact o1.ne_new
  replace ge2 : w.heap.size ≤ g2 := by rw [← ge2]; exact bel.size
  refine E.opv hF (r_alloc hr) rfl rfl rfl rfl fun a hF => ?_
  clear hr
  replace o1 := o1.below bb
  replace bel := below_to bel bb
  clear bb
  refine E.nil ?_
  refine wp_seq ?_
  refine E.drawn 3 mixed hF [3, 4, 5] [(fun w v => Orb w v pmo pam msz mch), (fun _ v => v = .agg #[.bool b1, .slice ad1 n1 c1, .slice ae1 m1 d1]), (fun w v => Rq w v (moonV (qt)))] [] (by decide +kernel) (by decide +kernel) rfl rfl rfl ⟨(fun _ _ _ h hb => h.below hb), (Mb.eq _), (fun _ _ _ h hb => h.below hb), trivial⟩ trivial ⟨?_, ?_, ?_, trivial⟩ ?_
  · intro a' w' hF' hb hd
    exact dc0 (r_call Tryz.func18 en18.1 en18.2 map0) (oMoonOrbit_any _) rfl rfl
  · intro a' w' hF' hb hd
    exact dv0 (r_load (hF'.at 1 rfl) (ld_Rat (vs := [.bool b1, .slice ad1 n1 c1, .slice ae1 m1 d1]) (o1.below hb) rfl rfl)) rfl rfl rfl
  · intro a' w' hF' hb hd
    obtain ⟨v3_0, e3, h3_1⟩ := sH hd 0 3 rfl rfl rfl rfl
    have e4 := sHe hd 1 4 rfl rfl rfl rfl
    exact dc0 (r_call Tryz.func16 en16.1 en16.2 (map2 e3 e4)) (oAt_any _ _ pmo pam msz mch (qt) k _ (hT.below (below_to bel hb)) h3_1 (h1.below (below_to bel hb)) pmo_lim pam_lim msz_lim mch_lim hl (by omega)) rfl rfl
  intro a w5 hF bb hall hne
  obtain ⟨vv6, e5, hh7⟩ := sS hall 2 5 rfl rfl
  clear hall hne
  replace o2 := o2.below bb
  replace bel := below_to bel bb
  clear bb
  obtain ⟨b8, ad8, n8, c8, ae8, m8, d8, rfl, hn8, hd8⟩ := Rq.shape hh7
  have hf9 := Wc.abs hn8
  replace hF := hF.add e5
  clear e5
  obtain ⟨w10, hr, tu, on⟩ := st_Rat (vs := [.bool b8, .slice ad8 n8 c8, .slice ae8 m8 d8]) o2 rfl rfl (ocB (ocS (ocS oc0))) (niB (niS (niS ni0))) (o := 0) rfl
  have kp := tu.keep o2
  refine E.st hF (r_store (hF.at 1 rfl) (hF.at 0 rfl) (hr _ rfl)) rfl rfl fun a hF => ?_
  clear hr
  replace hh7 := hh7.keep kp
  replace hn8 := hn8.keep kp
  replace hf9 := hf9.keep kp
  replace hd8 := hd8.keep kp
  replace bel := tu.below bel ge2
  clear tu kp
  replace o2 := on
  clear on
  refine E.nil ?_
  refine wp_ret ?_
  refine bodyPost_ret (res_cell Tryz.results11 (hF.at 1 rfl) (ld_Rat (vs := [.bool b8, .slice ad8 n8 c8, .slice ae8 m8 d8]) o2 rfl rfl)) hF.dfr ?_
  exact ⟨_, rfl, hh7, bel⟩

set_option maxHeartbeats 1000000 in
theorem oPhase_any (v1 : Value) (qt : Rat) (k : Nat) (w : World) (hT : TabD w) (h1 : Rq w v1 qt) (hl : RLim qt k) (hk : k ≤ 100) :
    Calls Tryz.prog 13 #[v1] w (RqPost w (phaseV qt)) := by
  have bel : Below w.heap.size w w := Below.refl _ _
  refine E.enter (nt := 9) (L := [(0, v1)]) Tryz.func13 rfl rfl rfl (args_cons (i := 0) rfl args_nil) ?_
  intro a hF
  refine wp_seq ?_
  refine E.seq ?_
  obtain ⟨b1, ad1, n1, c1, ae1, m1, d1, rfl, hn1, hd1⟩ := Rq.shape h1
  have hf2 := Wc.abs hn1
  obtain ⟨g1, w3, ge1, hr, bb, o1⟩ := own_box (P := Tryz.prog) (w := w) (cs := [.bool b1, .slice ad1 n1 c1, .slice ae1 m1 d1]) (v := .agg #[.bool b1, .slice ad1 n1 c1, .slice ae1 m1 d1]) 32 rfl (niB (niS (niS ni0)))
  replace ge1 : w.heap.size ≤ g1 := by rw [← ge1]; exact bel.size
  refine E.opv hF (r_box (hF.at 0 rfl) hr) rfl rfl rfl rfl fun a hF => ?_
  clear hr
  replace bel := below_to bel bb
  clear bb
  obtain ⟨g2, w4, ge2, hr, bb, o2⟩ := own_alloc (P := Tryz.prog) (w := w3) (cs := [.bool false, .slice none 0 0, .slice none 0 0]) 32 ze_Rat rfl (niB (niS (niS ni0)))
  have ne1_2 : g1 ≠ g2 := by rw [← ge2]; exact o1.ne_new
  replace ge2 : w.heap.size ≤ g2 := by rw [← ge2]; exact bel.size
  refine E.opv hF (r_alloc hr) rfl rfl rfl rfl fun a hF => ?_
  clear hr
  replace o1 := o1.below bb
  replace bel := below_to bel bb
  clear bb
  refine E.nil ?_
  refine wp_seq ?_
  refine E.drawn 6 mixed hF [3, 4, 5, 6, 7, 8] [(fun _ v => v = .agg #[.bool b1, .slice ad1 n1 c1, .slice ae1 m1 d1]), (fun w v => Rq w v (moonV (qt))), (fun _ v => v = .agg #[.bool b1, .slice ad1 n1 c1, .slice ae1 m1 d1]), (fun w v => Rq w v (sunV (qt))), (fun w v => Rq w v ((moonV (qt)) - (sunV (qt)))), (fun w v => Rq w v (rmod ((moonV (qt)) - (sunV (qt))) ((360 : Int) : Rat)))] [] (by decide +kernel) (by decide +kernel) rfl rfl rfl ⟨(Mb.eq _), (fun _ _ _ h hb => h.below hb), (Mb.eq _), (fun _ _ _ h hb => h.below hb), (fun _ _ _ h hb => h.below hb), (fun _ _ _ h hb => h.below hb), trivial⟩ trivial ⟨?_, ?_, ?_, ?_, ?_, ?_, trivial⟩ ?_
  · intro a' w' hF' hb hd
    exact dv0 (r_load (hF'.at 1 rfl) (ld_Rat (vs := [.bool b1, .slice ad1 n1 c1, .slice ae1 m1 d1]) (o1.below hb) rfl rfl)) rfl rfl rfl
  · intro a' w' hF' hb hd
    have e3 := sHe hd 0 3 rfl rfl rfl rfl
    exact dc0 (r_call Tryz.func11 en11.1 en11.2 (map1 e3)) (oMoon_any _ (qt) k _ (hT.below (below_to bel hb)) (h1.below (below_to bel hb)) hl (by omega)) rfl rfl
  · intro a' w' hF' hb hd
    exact dv0 (r_load (hF'.at 1 rfl) (ld_Rat (vs := [.bool b1, .slice ad1 n1 c1, .slice ae1 m1 d1]) (o1.below hb) rfl rfl)) rfl rfl rfl
  · intro a' w' hF' hb hd
    have e5 := sHe hd 0 5 rfl rfl rfl rfl
    exact dc0 (r_call Tryz.func9 en9.1 en9.2 (map1 e5)) (oSun_any _ (qt) k _ (hT.below (below_to bel hb)) (h1.below (below_to bel hb)) hl (by omega)) rfl rfl
  · intro a' w' hF' hb hd
    obtain ⟨v4_0, e4, h4_1⟩ := sH hd 0 4 rfl rfl rfl rfl
    obtain ⟨v6_0, e6, h6_1⟩ := sH hd 1 6 rfl rfl rfl rfl
    exact dc0 (r_call Tryz.func47 en47.1 en47.2 (map2 e4 e6)) (rSub_any _ _ _ _ (3 * k + 100) _ h4_1 h6_1 ((moonV_lim hl).up _ (by omega)) ((sunV_lim hl).up _ (by omega)) (by omega)) rfl rfl
  · intro a' w' hF' hb hd
    obtain ⟨v7_0, e7, h7_1⟩ := sH hd 0 7 rfl rfl rfl rfl
    exact dc0 (r_call Tryz.func46 en46.1 en46.2 (map1 e7)) (oAround_any _ _ ((3 * k + 100) + (3 * k + 100) + 1) _ h7_1 (rlim_sub (moonV_lim hl) (sunV_lim hl)) (by omega)) rfl rfl
  intro a w5 hF bb hall hne
  obtain ⟨vv6, e8, hh7⟩ := sS hall 5 8 rfl rfl
  clear hall hne
  replace o2 := o2.below bb
  replace bel := below_to bel bb
  clear bb
  obtain ⟨b8, ad8, n8, c8, ae8, m8, d8, rfl, hn8, hd8⟩ := Rq.shape hh7
  have hf9 := Wc.abs hn8
  replace hF := hF.add e8
  clear e8
  obtain ⟨w10, hr, tu, on⟩ := st_Rat (vs := [.bool b8, .slice ad8 n8 c8, .slice ae8 m8 d8]) o2 rfl rfl (ocB (ocS (ocS oc0))) (niB (niS (niS ni0))) (o := 0) rfl
  have kp := tu.keep o2
  refine E.st hF (r_store (hF.at 1 rfl) (hF.at 0 rfl) (hr _ rfl)) rfl rfl fun a hF => ?_
  clear hr
  replace hh7 := hh7.keep kp
  replace hn8 := hn8.keep kp
  replace hf9 := hf9.keep kp
  replace hd8 := hd8.keep kp
  replace bel := tu.below bel ge2
  clear tu kp
  replace o2 := on
  clear on
  refine E.nil ?_
  refine wp_ret ?_
  refine bodyPost_ret (res_cell Tryz.results13 (hF.at 1 rfl) (ld_Rat (vs := [.bool b8, .slice ad8 n8 c8, .slice ae8 m8 d8]) o2 rfl rfl)) hF.dfr ?_
  exact ⟨_, rfl, hh7, bel⟩

set_option maxHeartbeats 1000000 in
theorem oPart_any (v1 : Value) (qt : Rat) (k : Nat) (n : Int) (w : World) (h1 : Rq w v1 qt) (hl : RLim qt k) (hk : k ≤ 1000) (hn : 0 < n) (hn2 : n ≤ 1000) (h0 : 0 ≤ qt) (h3 : qt < ((360 : Int) : Rat)) :
    Calls Tryz.prog 58 #[v1, .int .i64 n] w (ValPost w (.int .i64 (prt qt n))) := by
  have bel : Below w.heap.size w w := Below.refl _ _
  refine E.enter (nt := 16) (L := [(0, v1), (1, .int .i64 n)]) Tryz.func58 rfl rfl rfl (args_cons (i := 0) rfl (args_cons (i := 1) rfl args_nil)) ?_
  intro a hF
  refine wp_seq ?_
  refine E.seq ?_
  obtain ⟨b1, ad1, n1, c1, ae1, m1, d1, rfl, hn1, hd1⟩ := Rq.shape h1
  have hf2 := Wc.abs hn1
  obtain ⟨g2, w3, ge2, hr, bb, o2⟩ := own_box (P := Tryz.prog) (w := w) (cs := [.bool b1, .slice ad1 n1 c1, .slice ae1 m1 d1]) (v := .agg #[.bool b1, .slice ad1 n1 c1, .slice ae1 m1 d1]) 32 rfl (niB (niS (niS ni0)))
  replace ge2 : w.heap.size ≤ g2 := by rw [← ge2]; exact bel.size
  refine E.opv hF (r_box (hF.at 0 rfl) hr) rfl rfl rfl rfl fun a hF => ?_
  clear hr
  replace bel := below_to bel bb
  clear bb
  refine E.opv hF (r_assign ev_c) rfl rfl rfl rfl fun a hF => ?_
  refine E.nil ?_
  refine wp_seq ?_
  refine E.drawn 10 mixed hF [8, 9, 10, 11, 12, 7, 13, 14, 5, 6] [(fun _ v => v = .agg #[.bool b1, .slice ad1 n1 c1, .slice ae1 m1 d1]), (fun _ v => v = .int .i64 n), (fun w v => Rq w v (((n : Int) : Rat) / ((360 : Int) : Rat))), (fun w v => Rq w v ((qt) * (((n : Int) : Rat) / ((360 : Int) : Rat)))), (fun _ v => v = .tuple #[.int .i64 (sm64 (Rat.floor ((qt) * (((n : Int) : Rat) / ((360 : Int) : Rat))))), .bool (fit64 (Rat.floor ((qt) * (((n : Int) : Rat) / ((360 : Int) : Rat)))))]), (fun _ v => v = .tuple #[.int .i64 (sm64 (Rat.floor ((qt) * (((n : Int) : Rat) / ((360 : Int) : Rat))))), .bool (fit64 (Rat.floor ((qt) * (((n : Int) : Rat) / ((360 : Int) : Rat)))))]), (fun _ v => v = .int .i64 (sm64 (Rat.floor ((qt) * (((n : Int) : Rat) / ((360 : Int) : Rat)))))), (fun _ v => v = .bool (fit64 (Rat.floor ((qt) * (((n : Int) : Rat) / ((360 : Int) : Rat)))))), (fun _ v => v = .int .i64 (sm64 (Rat.floor ((qt) * (((n : Int) : Rat) / ((360 : Int) : Rat)))))), (fun _ v => v = .bool (fit64 (Rat.floor ((qt) * (((n : Int) : Rat) / ((360 : Int) : Rat))))))] [] (by decide +kernel) (by decide +kernel) rfl rfl rfl ⟨(Mb.eq _), (Mb.eq _), (fun _ _ _ h hb => h.below hb), (fun _ _ _ h hb => h.below hb), (Mb.eq _), (Mb.eq _), (Mb.eq _), (Mb.eq _), (Mb.eq _), (Mb.eq _), trivial⟩ trivial ⟨?_, ?_, ?_, ?_, ?_, ?_, ?_, ?_, ?_, ?_, trivial⟩ ?_
  · intro a' w' hF' hb hd
    exact dv0 (r_load (hF'.at 1 rfl) (ld_Rat (vs := [.bool b1, .slice ad1 n1 c1, .slice ae1 m1 d1]) (o2.below hb) rfl rfl)) rfl rfl rfl
  · intro a' w' hF' hb hd
    exact dv0 (r_move (hF'.at 3 rfl)) rfl rfl rfl
  · intro a' w' hF' hb hd
    have e9 := sHe hd 0 9 rfl rfl rfl rfl
    exact dc0 (r_call Tryz.func52 en52.1 en52.2 (map2 e9 ev_c)) (rOf2_any (n) (360) _ (by omega) (by omega) (by decide) (by decide)) rfl rfl
  · intro a' w' hF' hb hd
    have e8 := sHe hd 0 8 rfl rfl rfl rfl
    obtain ⟨v10_0, e10, h10_1⟩ := sH hd 1 10 rfl rfl rfl rfl
    exact dc0 (r_call Tryz.func97 en97.1 en97.2 (map2 e8 e10)) (rMul_any _ _ (qt) _ (max k 2) _ (h1.below (below_to bel hb)) h10_1 (hl.up _ (by omega)) ((RLim.up (rlim_mk2 (limz_64 (by omega) (by omega)) (limz_64 (by decide) (by decide))) 2 (by decide)).up _ (by omega)) (by omega)) rfl rfl
  · intro a' w' hF' hb hd
    obtain ⟨v11_0, e11, h11_1⟩ := sH hd 0 11 rfl rfl rfl rfl
    exact dcx0 (r_call Tryz.func101 en101.1 en101.2 (map1 e11)) (cDays_any _ _ (k + 2) _ h11_1 (rlim_mul hl (RLim.up (rlim_mk2 (limz_64 (by omega) (by omega)) (limz_64 (by decide) (by decide))) 2 (by decide))) (by omega)) (fun _ => rfl) rfl rfl
  · intro a' w' hF' hb hd
    have e12 := sHe hd 0 12 rfl rfl rfl rfl
    exact dv0 (r_move e12) rfl rfl rfl
  · intro a' w' hF' hb hd
    have e7 := sHe hd 0 7 rfl rfl rfl rfl
    exact dv0 (r_extract (v := .int .i64 (sm64 (Rat.floor ((qt) * (((n : Int) : Rat) / ((360 : Int) : Rat)))))) e7 rfl) rfl rfl rfl
  · intro a' w' hF' hb hd
    have e7 := sHe hd 0 7 rfl rfl rfl rfl
    exact dv0 (r_extract (v := .bool (fit64 (Rat.floor ((qt) * (((n : Int) : Rat) / ((360 : Int) : Rat)))))) e7 rfl) rfl rfl rfl
  · intro a' w' hF' hb hd
    have e13 := sHe hd 0 13 rfl rfl rfl rfl
    exact dv0 (r_assign e13) rfl rfl rfl
  · intro a' w' hF' hb hd
    have e14 := sHe hd 0 14 rfl rfl rfl rfl
    exact dv0 (r_assign e14) rfl rfl rfl
  intro a w4 hF bb hall hne
  have e5 := sSe hall 8 5 rfl rfl
  clear hall hne
  replace bel := below_to bel bb
  clear bb
  replace hF := hF.add e5
  clear e5
  refine E.nil ?_
  refine wp_seq ?_
  refine E.seq ?_
  refine E.opv hF (r_move (hF.at 0 rfl)) rfl rfl rfl rfl fun a hF => ?_
  refine E.opset (L' := [(4, .int .i64 (sm64 (Rat.floor ((qt) * (((n : Int) : Rat) / ((360 : Int) : Rat)))))), (15, .int .i64 (sm64 (Rat.floor ((qt) * (((n : Int) : Rat) / ((360 : Int) : Rat)))))), (5, .int .i64 (sm64 (Rat.floor ((qt) * (((n : Int) : Rat) / ((360 : Int) : Rat)))))), (2, .pointer (some ⟨g2, 0, none⟩)), (0, .agg #[.bool b1, .slice ad1 n1 c1, .slice ae1 m1 d1]), (1, .int .i64 n)]) hF (r_assign (hF.at 0 rfl)) rfl rfl rfl rfl fun a hF => ?_
  refine E.nil ?_
  refine wp_ret ?_
  refine bodyPost_ret (res_tmp Tryz.results58 (hF.at 0 rfl)) hF.dfr ?_
  exact ⟨rv_int (prt_sm hn hn2 h0 h3), bel⟩

set_option maxHeartbeats 1000000 in
theorem oSign_any (v1 : Value) (qt : Rat) (k : Nat) (w : World) (hT : TabD w) (h1 : Rq w v1 qt) (hl : RLim qt k) (hk : k ≤ 100) :
    Calls Tryz.prog 21 #[v1] w (ValPost w (.int .i64 (prt (sunV qt) 12))) := by
  have bel : Below w.heap.size w w := Below.refl _ _
  refine E.enter (nt := 6) (L := [(0, v1)]) Tryz.func21 rfl rfl rfl (args_cons (i := 0) rfl args_nil) ?_
  intro a hF
  refine wp_seq ?_
  refine E.seq ?_
  obtain ⟨b1, ad1, n1, c1, ae1, m1, d1, rfl, hn1, hd1⟩ := Rq.shape h1
  have hf2 := Wc.abs hn1
  obtain ⟨g1, w3, ge1, hr, bb, o1⟩ := own_box (P := Tryz.prog) (w := w) (cs := [.bool b1, .slice ad1 n1 c1, .slice ae1 m1 d1]) (v := .agg #[.bool b1, .slice ad1 n1 c1, .slice ae1 m1 d1]) 32 rfl (niB (niS (niS ni0)))
  replace ge1 : w.heap.size ≤ g1 := by rw [← ge1]; exact bel.size
  refine E.opv hF (r_box (hF.at 0 rfl) hr) rfl rfl rfl rfl fun a hF => ?_
  clear hr
  replace bel := below_to bel bb
  clear bb
  refine E.opv hF (r_assign ev_c) rfl rfl rfl rfl fun a hF => ?_
  refine E.nil ?_
  refine wp_seq ?_
  refine E.seq ?_
  refine E.opv hF (r_load (hF.at 1 rfl) (ld_Rat (vs := [.bool b1, .slice ad1 n1 c1, .slice ae1 m1 d1]) o1 rfl rfl)) rfl rfl rfl rfl fun a hF => ?_
  refine E.call hF (r_call Tryz.func9 en9.1 en9.2 (map1 (hF.at 0 rfl))) (oSun_any _ (qt) k _ (hT.below bel) (h1.below bel) hl (by omega)) rfl rfl rfl rfl ?_
  rintro e w4 ⟨vv5, rfl, hh6, bb⟩
  refine ⟨_, rfl, ?_⟩
  intro a hF
  replace bel := below_to bel bb
  clear bb
  obtain ⟨b7, ad7, n7, c7, ae7, m7, d7, rfl, hn7, hd7⟩ := Rq.shape hh6
  have hf8 := Wc.abs hn7
  refine E.call hF (r_call Tryz.func58 en58.1 en58.2 (map2 (hF.at 0 rfl) ev_c)) (oPart_any _ _ (3 * k + 100) 12 _ hh6 (sunV_lim hl) (by omega) (by omega) (by omega) (sunV_low _) (sunV_high _)) rfl rfl rfl rfl ?_
  rintro e w9 ⟨rfl, bb⟩
  refine ⟨_, rfl, ?_⟩
  intro a hF
  have hpt45631 := prt_bd (x := sunV (qt)) (n := 12) (by omega) (sunV_low _) (sunV_high _)
  replace bel := below_to bel bb
  clear bb
  refine E.opset (L' := [(2, .int .i64 (prt (sunV (qt)) 12)), (5, .int .i64 (prt (sunV (qt)) 12)), (4, .agg #[.bool b7, .slice ad7 n7 c7, .slice ae7 m7 d7]), (3, .agg #[.bool b1, .slice ad1 n1 c1, .slice ae1 m1 d1]), (1, .pointer (some ⟨g1, 0, none⟩)), (0, .agg #[.bool b1, .slice ad1 n1 c1, .slice ae1 m1 d1])]) hF (r_assign (hF.at 0 rfl)) rfl rfl rfl rfl fun a hF => ?_
  refine E.nil ?_
  refine wp_ret ?_
  refine bodyPost_ret (res_tmp Tryz.results21 (hF.at 0 rfl)) hF.dfr ?_
  exact ⟨rfl, bel⟩

set_option maxHeartbeats 1000000 in
theorem oTithi_any (v1 : Value) (qt : Rat) (k : Nat) (w : World) (hT : TabD w) (h1 : Rq w v1 qt) (hl : RLim qt k) (hk : k ≤ 100) :
    Calls Tryz.prog 22 #[v1] w (ValPost w (.int .i64 (prt (phaseV qt) 30 + 1))) := by
  have bel : Below w.heap.size w w := Below.refl _ _
  refine E.enter (nt := 7) (L := [(0, v1)]) Tryz.func22 rfl rfl rfl (args_cons (i := 0) rfl args_nil) ?_
  intro a hF
  refine wp_seq ?_
  refine E.seq ?_
  obtain ⟨b1, ad1, n1, c1, ae1, m1, d1, rfl, hn1, hd1⟩ := Rq.shape h1
  have hf2 := Wc.abs hn1
  obtain ⟨g1, w3, ge1, hr, bb, o1⟩ := own_box (P := Tryz.prog) (w := w) (cs := [.bool b1, .slice ad1 n1 c1, .slice ae1 m1 d1]) (v := .agg #[.bool b1, .slice ad1 n1 c1, .slice ae1 m1 d1]) 32 rfl (niB (niS (niS ni0)))
  replace ge1 : w.heap.size ≤ g1 := by rw [← ge1]; exact bel.size
  refine E.opv hF (r_box (hF.at 0 rfl) hr) rfl rfl rfl rfl fun a hF => ?_
  clear hr
  replace bel := below_to bel bb
  clear bb
  refine E.opv hF (r_assign ev_c) rfl rfl rfl rfl fun a hF => ?_
  refine E.nil ?_
  refine wp_seq ?_
  refine E.seq ?_
  refine E.opv hF (r_load (hF.at 1 rfl) (ld_Rat (vs := [.bool b1, .slice ad1 n1 c1, .slice ae1 m1 d1]) o1 rfl rfl)) rfl rfl rfl rfl fun a hF => ?_
  refine E.call hF (r_call Tryz.func13 en13.1 en13.2 (map1 (hF.at 0 rfl))) (oPhase_any _ (qt) k _ (hT.below bel) (h1.below bel) hl (by omega)) rfl rfl rfl rfl ?_
  rintro e w4 ⟨vv5, rfl, hh6, bb⟩
  refine ⟨_, rfl, ?_⟩
  intro a hF
  replace bel := below_to bel bb
  clear bb
  obtain ⟨b7, ad7, n7, c7, ae7, m7, d7, rfl, hn7, hd7⟩ := Rq.shape hh6
  have hf8 := Wc.abs hn7
  refine E.call hF (r_call Tryz.func58 en58.1 en58.2 (map2 (hF.at 0 rfl) ev_c)) (oPart_any _ _ (6 * k + 210) 30 _ hh6 (phaseV_lim hl) (by omega) (by omega) (by omega) (phaseV_low _) (phaseV_high _)) rfl rfl rfl rfl ?_
  rintro e w9 ⟨rfl, bb⟩
  refine ⟨_, rfl, ?_⟩
  intro a hF
  have hpt66638 := prt_bd (x := phaseV (qt)) (n := 30) (by omega) (phaseV_low _) (phaseV_high _)
  replace bel := below_to bel bb
  clear bb
  refine E.opv hF (r_bin (hF.at 0 rfl) ev_c eg_scalar (ia_add (by omega) (by omega))) rfl rfl rfl rfl fun a hF => ?_
  refine E.opset (L' := [(2, .int .i64 ((prt (phaseV (qt)) 30) + 1)), (6, .int .i64 ((prt (phaseV (qt)) 30) + 1)), (5, .int .i64 (prt (phaseV (qt)) 30)), (4, .agg #[.bool b7, .slice ad7 n7 c7, .slice ae7 m7 d7]), (3, .agg #[.bool b1, .slice ad1 n1 c1, .slice ae1 m1 d1]), (1, .pointer (some ⟨g1, 0, none⟩)), (0, .agg #[.bool b1, .slice ad1 n1 c1, .slice ae1 m1 d1])]) hF (r_assign (hF.at 0 rfl)) rfl rfl rfl rfl fun a hF => ?_
  refine E.nil ?_
  refine wp_ret ?_
  refine bodyPost_ret (res_tmp Tryz.results22 (hF.at 0 rfl)) hF.dfr ?_
  exact ⟨rfl, bel⟩

set_option maxHeartbeats 4000000 in
theorem oElem_any (v1 : Value) (qt : Rat) (k : Nat) (w : World) (hT : TabD w) (h1 : Rq w v1 qt) (hl : RLim qt k) (hk : k ≤ 100) :
    Calls Tryz.prog 19 #[v1] w (ValPost w (.agg #[.int .i64 (prt (sunV qt) 12), .int .i64 (prt (phaseV qt) 30 + 1), .int .i64 (prt (moonV qt) 27 + 1), .int .i64 (prt (yogaV qt) 27 + 1), .int .i64 (prt (phaseV qt) 60 + 1)])) := by
  have bel : Below w.heap.size w w := Below.refl _ _
  refine E.enter (nt := 32) (L := [(0, v1)]) Tryz.func19 rfl rfl rfl (args_cons (i := 0) rfl args_nil) ?_
  intro a hF
  refine wp_seq ?_
  refine E.seq ?_
  obtain ⟨b1, ad1, n1, c1, ae1, m1, d1, rfl, hn1, hd1⟩ := Rq.shape h1
  have hf2 := Wc.abs hn1
  obtain ⟨g1, w3, ge1, hr, bb, o1⟩ := own_box (P := Tryz.prog) (w := w) (cs := [.bool b1, .slice ad1 n1 c1, .slice ae1 m1 d1]) (v := .agg #[.bool b1, .slice ad1 n1 c1, .slice ae1 m1 d1]) 32 rfl (niB (niS (niS ni0)))
  replace ge1 : w.heap.size ≤ g1 := by rw [← ge1]; exact bel.size
  refine E.opv hF (r_box (hF.at 0 rfl) hr) rfl rfl rfl rfl fun a hF => ?_
  clear hr
  replace bel := below_to bel bb
  clear bb
  obtain ⟨g2, w4, ge2, hr, bb, o2⟩ := blk_alloc (P := Tryz.prog) (w := w3) (cs := [.int .i64 0, .int .i64 0, .int .i64 0, .int .i64 0, .int .i64 0]) 50 ze_Elem rfl
  have ne1_2 : g1 ≠ g2 := by rw [← ge2]; exact o1.ne_new
  replace ge2 : w.heap.size ≤ g2 := by rw [← ge2]; exact bel.size
  refine E.opv hF (r_alloc hr) rfl rfl rfl rfl fun a hF => ?_
  clear hr
  replace o1 := o1.below bb
  replace bel := below_to bel bb
  clear bb
  refine E.nil ?_
  refine wp_seq ?_
  refine E.drawn 6 mixed hF [6, 7, 8, 9, 3, 4] [(fun _ v => v = .agg #[.bool b1, .slice ad1 n1 c1, .slice ae1 m1 d1]), (fun w v => Rq w v (sunV (qt))), (fun _ v => v = .agg #[.bool b1, .slice ad1 n1 c1, .slice ae1 m1 d1]), (fun w v => Rq w v (moonV (qt))), (fun w v => ∃ g, v = .pointer (some ⟨g, 0, none⟩) ∧ w4.heap.size ≤ g ∧ Own w g [.bool false, .slice none 0 0, .slice none 0 0]), (fun w v => ∃ g, v = .pointer (some ⟨g, 0, none⟩) ∧ w4.heap.size ≤ g ∧ Own w g [.bool false, .slice none 0 0, .slice none 0 0])] [4, 5] (by decide +kernel) (by decide +kernel) rfl rfl rfl ⟨(Mb.eq _), (fun _ _ _ h hb => h.below hb), (Mb.eq _), (fun _ _ _ h hb => h.below hb), (fun _ _ _ ⟨g, e, l, o⟩ hb => ⟨g, e, l, o.below hb⟩), (fun _ _ _ ⟨g, e, l, o⟩ hb => ⟨g, e, l, o.below hb⟩), trivial⟩ ⟨fun _ _ ⟨g, e, _, o⟩ => ⟨g, e, o.lt⟩, ⟨fun _ _ ⟨g, e, _, o⟩ => ⟨g, e, o.lt⟩, trivial⟩⟩ ⟨?_, ?_, ?_, ?_, ?_, ?_, trivial⟩ ?_
  · intro a' w' hF' hb hd
    exact dv0 (r_load (hF'.at 1 rfl) (ld_Rat (vs := [.bool b1, .slice ad1 n1 c1, .slice ae1 m1 d1]) (o1.below hb) rfl rfl)) rfl rfl rfl
  · intro a' w' hF' hb hd
    have e6 := sHe hd 0 6 rfl rfl rfl rfl
    exact dc0 (r_call Tryz.func9 en9.1 en9.2 (map1 e6)) (oSun_any _ (qt) k _ (hT.below (below_to bel hb)) (h1.below (below_to bel hb)) hl (by omega)) rfl rfl
  · intro a' w' hF' hb hd
    exact dv0 (r_load (hF'.at 1 rfl) (ld_Rat (vs := [.bool b1, .slice ad1 n1 c1, .slice ae1 m1 d1]) (o1.below hb) rfl rfl)) rfl rfl rfl
  · intro a' w' hF' hb hd
    have e8 := sHe hd 0 8 rfl rfl rfl rfl
    exact dc0 (r_call Tryz.func11 en11.1 en11.2 (map1 e8)) (oMoon_any _ (qt) k _ (hT.below (below_to bel hb)) (h1.below (below_to bel hb)) hl (by omega)) rfl rfl
  · intro a' w' hF' hb hd
    obtain ⟨g, w2, ge, hr, bb, on⟩ := own_alloc (P := Tryz.prog) (w := w') (cs := [.bool false, .slice none 0 0, .slice none 0 0]) 32 ze_Rat rfl (niB (niS (niS ni0)))
    subst ge
    exact if_does (wanted_free rfl) (Does.vals (r_alloc hr) ⟨⟨_, rfl, hb.size, on⟩, bb, fun _ => rfl⟩)
  · intro a' w' hF' hb hd
    obtain ⟨g, w2, ge, hr, bb, on⟩ := own_alloc (P := Tryz.prog) (w := w') (cs := [.bool false, .slice none 0 0, .slice none 0 0]) 32 ze_Rat rfl (niB (niS (niS ni0)))
    subst ge
    exact if_does (wanted_free rfl) (Does.vals (r_alloc hr) ⟨⟨_, rfl, hb.size, on⟩, bb, fun _ => rfl⟩)
  intro a w5 hF bb hall hne
  obtain ⟨vv6, e7, hh7⟩ := sS hall 1 7 rfl rfl
  obtain ⟨vv8, e9, hh9⟩ := sS hall 3 9 rfl rfl
  obtain ⟨g3, e3, ge3, o3⟩ : ∃ g, a.tmps.getD 3 undef = .pointer (some ⟨g, 0, none⟩) ∧ w4.heap.size ≤ g ∧ Own w5 g [.bool false, .slice none 0 0, .slice none 0 0] := hall 4 3 rfl
  have ne2_3 : g2 ≠ g3 := Nat.ne_of_lt (Nat.lt_of_lt_of_le o2.lt ge3)
  obtain ⟨g4, e4, ge4, o4⟩ : ∃ g, a.tmps.getD 4 undef = .pointer (some ⟨g, 0, none⟩) ∧ w4.heap.size ≤ g ∧ Own w5 g [.bool false, .slice none 0 0, .slice none 0 0] := hall 5 4 rfl
  have ne2_4 : g2 ≠ g4 := Nat.ne_of_lt (Nat.lt_of_lt_of_le o2.lt ge4)
  have ne3_4 : g3 ≠ g4 := by intro e; exact hne 4 5 3 4 rfl rfl (by decide) rfl rfl (by rw [e3, e4, e])
  replace ge3 : w.heap.size ≤ g3 := Nat.le_trans bel.size ge3
  replace ge4 : w.heap.size ≤ g4 := Nat.le_trans bel.size ge4
  clear hall hne
  replace o2 := o2.below bb
  replace bel := below_to bel bb
  clear bb
  obtain ⟨b10, ad10, n10, c10, ae10, m10, d10, rfl, hn10, hd10⟩ := Rq.shape hh7
  have hf11 := Wc.abs hn10
  replace hF := hF.add e7
  clear e7
  obtain ⟨b12, ad12, n12, c12, ae12, m12, d12, rfl, hn12, hd12⟩ := Rq.shape hh9
  have hf13 := Wc.abs hn12
  replace hF := hF.add e9
  clear e9
  replace hF := hF.add e3
  clear e3
  replace hF := hF.add e4
  clear e4
  obtain ⟨w14, hr, tu, on⟩ := st_Rat (vs := [.bool b10, .slice ad10 n10 c10, .slice ae10 m10 d10]) o3 rfl rfl (ocB (ocS (ocS oc0))) (niB (niS (niS ni0))) (o := 0) rfl
  have kp := tu.keep o3
  refine E.st hF (r_store (hF.at 1 rfl) (hF.at 3 rfl) (hr _ rfl)) rfl rfl fun a hF => ?_
  clear hr
  replace hh9 := hh9.keep kp
  replace hn12 := hn12.keep kp
  replace hf13 := hf13.keep kp
  replace hd12 := hd12.keep kp
  replace hh7 := hh7.keep kp
  replace hn10 := hn10.keep kp
  replace hf11 := hf11.keep kp
  replace hd10 := hd10.keep kp
  replace o2 := tu.blk o2 ne2_3
  replace o4 := tu.own o4 (Ne.symm ne3_4)
  replace bel := tu.below bel ge3
  clear tu kp
  replace o3 := on
  clear on
  obtain ⟨w15, hr, tu, on⟩ := st_Rat (vs := [.bool b12, .slice ad12 n12 c12, .slice ae12 m12 d12]) o4 rfl rfl (ocB (ocS (ocS oc0))) (niB (niS (niS ni0))) (o := 0) rfl
  have kp := tu.keep o4
  refine E.st hF (r_store (hF.at 0 rfl) (hF.at 2 rfl) (hr _ rfl)) rfl rfl fun a hF => ?_
  clear hr
  replace hf11 := hf11.keep kp
  replace hd10 := hd10.keep kp
  replace hh7 := hh7.keep kp
  replace hn10 := hn10.keep kp
  replace hh9 := hh9.keep kp
  replace hn12 := hn12.keep kp
  replace hf13 := hf13.keep kp
  replace hd12 := hd12.keep kp
  replace o2 := tu.blk o2 ne2_4
  replace o3 := tu.own o3 ne3_4
  replace bel := tu.below bel ge4
  clear tu kp
  replace o4 := on
  clear on
  refine E.nil ?_
  refine wp_seq ?_
  refine E.seq ?_
  refine E.opv hF (r_load (hF.at 0 rfl) (ld_Rat (vs := [.bool b12, .slice ad12 n12 c12, .slice ae12 m12 d12]) o4 rfl rfl)) rfl rfl rfl rfl fun a hF => ?_
  refine E.opv hF (r_load (hF.at 2 rfl) (ld_Rat (vs := [.bool b10, .slice ad10 n10 c10, .slice ae10 m10 d10]) o3 rfl rfl)) rfl rfl rfl rfl fun a hF => ?_
  refine E.call hF (r_call Tryz.func47 en47.1 en47.2 (map2 (hF.at 1 rfl) (hF.at 0 rfl))) (rSub_any _ _ _ _ (3 * k + 100) _ hh9 hh7 ((moonV_lim hl).up _ (by omega)) ((sunV_lim hl).up _ (by omega)) (by omega)) rfl rfl rfl rfl ?_
  rintro e w16 ⟨vv17, rfl, hh18, bb⟩
  refine ⟨_, rfl, ?_⟩
  intro a hF
  replace hf11 := hf11.below bb
  replace hd10 := hd10.below bb
  replace hh7 := hh7.below bb
  replace hn10 := hn10.below bb
  replace hf13 := hf13.below bb
  replace hd12 := hd12.below bb
  replace hh9 := hh9.below bb
  replace hn12 := hn12.below bb
  replace o2 := o2.below bb
  replace o3 := o3.below bb
  replace o4 := o4.below bb
  replace bel := below_to bel bb
  clear bb
  obtain ⟨b19, ad19, n19, c19, ae19, m19, d19, rfl, hn19, hd19⟩ := Rq.shape hh18
  have hf20 := Wc.abs hn19
  refine E.call hF (r_call Tryz.func46 en46.1 en46.2 (map1 (hF.at 0 rfl))) (oAround_any _ _ ((3 * k + 100) + (3 * k + 100) + 1) _ hh18 (rlim_sub (moonV_lim hl) (sunV_lim hl)) (by omega)) rfl rfl rfl rfl ?_
  rintro e w21 ⟨vv22, rfl, hh23, bb⟩
  refine ⟨_, rfl, ?_⟩
  intro a hF
  replace hf11 := hf11.below bb
  replace hd10 := hd10.below bb
  replace hh7 := hh7.below bb
  replace hn10 := hn10.below bb
  replace hf13 := hf13.below bb
  replace hd12 := hd12.below bb
  replace hh9 := hh9.below bb
  replace hn12 := hn12.below bb
  replace o2 := o2.below bb
  replace o3 := o3.below bb
  replace o4 := o4.below bb
  replace bel := below_to bel bb
  clear bb
  obtain ⟨b24, ad24, n24, c24, ae24, m24, d24, rfl, hn24, hd24⟩ := Rq.shape hh23
  have hf25 := Wc.abs hn24
  obtain ⟨g5, w26, ge5, hr, bb, o5⟩ := own_alloc (P := Tryz.prog) (w := w21) (cs := [.bool false, .slice none 0 0, .slice none 0 0]) 32 ze_Rat rfl (niB (niS (niS ni0)))
  have ne2_5 : g2 ≠ g5 := by rw [← ge5]; exact o2.ne_new
  have ne3_5 : g3 ≠ g5 := by rw [← ge5]; exact o3.ne_new
  have ne4_5 : g4 ≠ g5 := by rw [← ge5]; exact o4.ne_new
  replace ge5 : w.heap.size ≤ g5 := by rw [← ge5]; exact bel.size
  refine E.opv hF (r_alloc hr) rfl rfl rfl rfl fun a hF => ?_
  clear hr
  replace hh23 := hh23.below bb
  replace hn24 := hn24.below bb
  replace hf25 := hf25.below bb
  replace hd24 := hd24.below bb
  replace hf11 := hf11.below bb
  replace hd10 := hd10.below bb
  replace hh7 := hh7.below bb
  replace hn10 := hn10.below bb
  replace hf13 := hf13.below bb
  replace hd12 := hd12.below bb
  replace hh9 := hh9.below bb
  replace hn12 := hn12.below bb
  replace o2 := o2.below bb
  replace o3 := o3.below bb
  replace o4 := o4.below bb
  replace bel := below_to bel bb
  clear bb
  obtain ⟨w27, hr, tu, on⟩ := st_Rat (vs := [.bool b24, .slice ad24 n24 c24, .slice ae24 m24 d24]) o5 rfl rfl (ocB (ocS (ocS oc0))) (niB (niS (niS ni0))) (o := 0) rfl
  have kp := tu.keep o5
  refine E.st hF (r_store (hF.at 0 rfl) (hF.at 1 rfl) (hr _ rfl)) rfl rfl fun a hF => ?_
  clear hr
  replace hf11 := hf11.keep kp
  replace hd10 := hd10.keep kp
  replace hh7 := hh7.keep kp
  replace hn10 := hn10.keep kp
  replace hf13 := hf13.keep kp
  replace hd12 := hd12.keep kp
  replace hh9 := hh9.keep kp
  replace hn12 := hn12.keep kp
  replace hh23 := hh23.keep kp
  replace hn24 := hn24.keep kp
  replace hf25 := hf25.keep kp
  replace hd24 := hd24.keep kp
  replace o2 := tu.blk o2 ne2_5
  replace o3 := tu.own o3 ne3_5
  replace o4 := tu.own o4 ne4_5
  replace bel := tu.below bel ge5
  clear tu kp
  replace o5 := on
  clear on
  refine E.nil ?_
  refine wp_seq ?_
  refine E.drawn 18 mixed hF [14, 15, 16, 17, 18, 19, 20, 21, 22, 23, 24, 25, 26, 27, 28, 29, 30, 31] [(fun _ v => v = .agg #[.bool b10, .slice ad10 n10 c10, .slice ae10 m10 d10]), (fun _ v => v = .int .i64 (prt (sunV (qt)) 12)), (fun _ v => v = .agg #[.bool b24, .slice ad24 n24 c24, .slice ae24 m24 d24]), (fun _ v => v = .int .i64 (prt (rmod ((moonV (qt)) - (sunV (qt))) ((360 : Int) : Rat)) 30)), (fun _ v => v = .int .i64 ((prt (rmod ((moonV (qt)) - (sunV (qt))) ((360 : Int) : Rat)) 30) + 1)), (fun _ v => v = .agg #[.bool b12, .slice ad12 n12 c12, .slice ae12 m12 d12]), (fun _ v => v = .int .i64 (prt (moonV (qt)) 27)), (fun _ v => v = .int .i64 ((prt (moonV (qt)) 27) + 1)), (fun _ v => v = .agg #[.bool b12, .slice ad12 n12 c12, .slice ae12 m12 d12]), (fun _ v => v = .agg #[.bool b10, .slice ad10 n10 c10, .slice ae10 m10 d10]), (fun w v => Rq w v ((moonV (qt)) + (sunV (qt)))), (fun w v => Rq w v (rmod ((moonV (qt)) + (sunV (qt))) ((360 : Int) : Rat))), (fun _ v => v = .int .i64 (prt (rmod ((moonV (qt)) + (sunV (qt))) ((360 : Int) : Rat)) 27)), (fun _ v => v = .int .i64 ((prt (rmod ((moonV (qt)) + (sunV (qt))) ((360 : Int) : Rat)) 27) + 1)), (fun _ v => v = .agg #[.bool b24, .slice ad24 n24 c24, .slice ae24 m24 d24]), (fun _ v => v = .int .i64 (prt (rmod ((moonV (qt)) - (sunV (qt))) ((360 : Int) : Rat)) 60)), (fun _ v => v = .int .i64 ((prt (rmod ((moonV (qt)) - (sunV (qt))) ((360 : Int) : Rat)) 60) + 1)), (fun _ v => v = .agg #[.int .i64 (prt (sunV (qt)) 12), .int .i64 ((prt (rmod ((moonV (qt)) - (sunV (qt))) ((360 : Int) : Rat)) 30) + 1), .int .i64 ((prt (moonV (qt)) 27) + 1), .int .i64 ((prt (rmod ((moonV (qt)) + (sunV (qt))) ((360 : Int) : Rat)) 27) + 1), .int .i64 ((prt (rmod ((moonV (qt)) - (sunV (qt))) ((360 : Int) : Rat)) 60) + 1)])] [] (by decide +kernel) (by decide +kernel) rfl rfl rfl ⟨(Mb.eq _), (Mb.eq _), (Mb.eq _), (Mb.eq _), (Mb.eq _), (Mb.eq _), (Mb.eq _), (Mb.eq _), (Mb.eq _), (Mb.eq _), (fun _ _ _ h hb => h.below hb), (fun _ _ _ h hb => h.below hb), (Mb.eq _), (Mb.eq _), (Mb.eq _), (Mb.eq _), (Mb.eq _), (Mb.eq _), trivial⟩ trivial ⟨?_, ?_, ?_, ?_, ?_, ?_, ?_, ?_, ?_, ?_, ?_, ?_, ?_, ?_, ?_, ?_, ?_, ?_, trivial⟩ ?_
  · intro a' w' hF' hb hd
    exact dv0 (r_load (hF'.at 6 rfl) (ld_Rat (vs := [.bool b10, .slice ad10 n10 c10, .slice ae10 m10 d10]) (o3.below hb) rfl rfl)) rfl rfl rfl
  · intro a' w' hF' hb hd
    have e14 := sHe hd 0 14 rfl rfl rfl rfl
    exact dcx0 (r_call Tryz.func58 en58.1 en58.2 (map2 e14 ev_c)) (oPart_any _ _ (3 * k + 100) 12 _ (hh7.below hb) (sunV_lim hl) (by omega) (by omega) (by omega) (sunV_low _) (sunV_high _)) (fun _ => rfl) rfl rfl
  · intro a' w' hF' hb hd
    exact dv0 (r_load (hF'.at 0 rfl) (ld_Rat (vs := [.bool b24, .slice ad24 n24 c24, .slice ae24 m24 d24]) (o5.below hb) rfl rfl)) rfl rfl rfl
  · intro a' w' hF' hb hd
    have e16 := sHe hd 0 16 rfl rfl rfl rfl
    exact dcx0 (r_call Tryz.func58 en58.1 en58.2 (map2 e16 ev_c)) (oPart_any _ _ (((3 * k + 100) + (3 * k + 100) + 1) + 4) 30 _ (hh23.below hb) (rmod360_lim (rlim_sub (moonV_lim hl) (sunV_lim hl))) (by omega) (by omega) (by omega) (rmod_low c360_pos) (rmod_high c360_pos)) (fun _ => rfl) rfl rfl
  · intro a' w' hF' hb hd
    have e17 := sHe hd 0 17 rfl rfl rfl rfl
    have hpt16272 := prt_bd (x := rmod ((moonV (qt)) - (sunV (qt))) ((360 : Int) : Rat)) (n := 30) (by omega) (rmod_low c360_pos) (rmod_high c360_pos)
    exact dv0 (r_bin e17 ev_c eg_scalar (ia_add (by omega) (by omega))) rfl rfl rfl
  · intro a' w' hF' hb hd
    exact dv0 (r_load (hF'.at 5 rfl) (ld_Rat (vs := [.bool b12, .slice ad12 n12 c12, .slice ae12 m12 d12]) (o4.below hb) rfl rfl)) rfl rfl rfl
  · intro a' w' hF' hb hd
    have e19 := sHe hd 0 19 rfl rfl rfl rfl
    exact dcx0 (r_call Tryz.func58 en58.1 en58.2 (map2 e19 ev_c)) (oPart_any _ _ (3 * k + 100) 27 _ (hh9.below hb) (moonV_lim hl) (by omega) (by omega) (by omega) (moonV_low _) (moonV_high _)) (fun _ => rfl) rfl rfl
  · intro a' w' hF' hb hd
    have e20 := sHe hd 0 20 rfl rfl rfl rfl
    have hpt56835 := prt_bd (x := moonV (qt)) (n := 27) (by omega) (moonV_low _) (moonV_high _)
    exact dv0 (r_bin e20 ev_c eg_scalar (ia_add (by omega) (by omega))) rfl rfl rfl
  · intro a' w' hF' hb hd
    exact dv0 (r_load (hF'.at 5 rfl) (ld_Rat (vs := [.bool b12, .slice ad12 n12 c12, .slice ae12 m12 d12]) (o4.below hb) rfl rfl)) rfl rfl rfl
  · intro a' w' hF' hb hd
    exact dv0 (r_load (hF'.at 6 rfl) (ld_Rat (vs := [.bool b10, .slice ad10 n10 c10, .slice ae10 m10 d10]) (o3.below hb) rfl rfl)) rfl rfl rfl
  · intro a' w' hF' hb hd
    have e22 := sHe hd 0 22 rfl rfl rfl rfl
    have e23 := sHe hd 1 23 rfl rfl rfl rfl
    exact dc0 (r_call Tryz.func59 en59.1 en59.2 (map2 e22 e23)) (rAdd_any _ _ _ _ (3 * k + 100) _ (hh9.below hb) (hh7.below hb) ((moonV_lim hl).up _ (by omega)) ((sunV_lim hl).up _ (by omega)) (by omega)) rfl rfl
  · intro a' w' hF' hb hd
    obtain ⟨v24_0, e24, h24_1⟩ := sH hd 0 24 rfl rfl rfl rfl
    exact dc0 (r_call Tryz.func46 en46.1 en46.2 (map1 e24)) (oAround_any _ _ ((3 * k + 100) + (3 * k + 100) + 1) _ h24_1 (rlim_add (moonV_lim hl) (sunV_lim hl)) (by omega)) rfl rfl
  · intro a' w' hF' hb hd
    obtain ⟨v25_0, e25, h25_1⟩ := sH hd 0 25 rfl rfl rfl rfl
    exact dcx0 (r_call Tryz.func58 en58.1 en58.2 (map2 e25 ev_c)) (oPart_any _ _ (((3 * k + 100) + (3 * k + 100) + 1) + 4) 27 _ h25_1 (rmod360_lim (rlim_add (moonV_lim hl) (sunV_lim hl))) (by omega) (by omega) (by omega) (rmod_low c360_pos) (rmod_high c360_pos)) (fun _ => rfl) rfl rfl
  · intro a' w' hF' hb hd
    have e26 := sHe hd 0 26 rfl rfl rfl rfl
    have hpt82804 := prt_bd (x := rmod ((moonV (qt)) + (sunV (qt))) ((360 : Int) : Rat)) (n := 27) (by omega) (rmod_low c360_pos) (rmod_high c360_pos)
    exact dv0 (r_bin e26 ev_c eg_scalar (ia_add (by omega) (by omega))) rfl rfl rfl
  · intro a' w' hF' hb hd
    exact dv0 (r_load (hF'.at 0 rfl) (ld_Rat (vs := [.bool b24, .slice ad24 n24 c24, .slice ae24 m24 d24]) (o5.below hb) rfl rfl)) rfl rfl rfl
  · intro a' w' hF' hb hd
    have e28 := sHe hd 0 28 rfl rfl rfl rfl
    exact dcx0 (r_call Tryz.func58 en58.1 en58.2 (map2 e28 ev_c)) (oPart_any _ _ (((3 * k + 100) + (3 * k + 100) + 1) + 4) 60 _ (hh23.below hb) (rmod360_lim (rlim_sub (moonV_lim hl) (sunV_lim hl))) (by omega) (by omega) (by omega) (rmod_low c360_pos) (rmod_high c360_pos)) (fun _ => rfl) rfl rfl
  · intro a' w' hF' hb hd
    have e29 := sHe hd 0 29 rfl rfl rfl rfl
    have hpt35701 := prt_bd (x := rmod ((moonV (qt)) - (sunV (qt))) ((360 : Int) : Rat)) (n := 60) (by omega) (rmod_low c360_pos) (rmod_high c360_pos)
    exact dv0 (r_bin e29 ev_c eg_scalar (ia_add (by omega) (by omega))) rfl rfl rfl
  · intro a' w' hF' hb hd
    have e15 := sHe hd 0 15 rfl rfl rfl rfl
    have hpt45631 := prt_bd (x := sunV (qt)) (n := 12) (by omega) (sunV_low _) (sunV_high _)
    have e18 := sHe hd 1 18 rfl rfl rfl rfl
    have e21 := sHe hd 2 21 rfl rfl rfl rfl
    have e27 := sHe hd 3 27 rfl rfl rfl rfl
    have e30 := sHe hd 4 30 rfl rfl rfl rfl
    exact dv0 (r_build (pair5 e15 e18 e21 e27 e30) (bd_Elem_01234 _ _ _ _ _ _)) rfl rfl rfl
  intro a w28 hF bb hall hne
  have e31 := sSe hall 17 31 rfl rfl
  clear hall hne
  replace o2 := o2.below bb
  replace bel := below_to bel bb
  clear bb
  replace hF := hF.add e31
  clear e31
  obtain ⟨w29, hr, tu, on⟩ := stb_Elem (vs := [.int .i64 (prt (sunV (qt)) 12), .int .i64 ((prt (rmod ((moonV (qt)) - (sunV (qt))) ((360 : Int) : Rat)) 30) + 1), .int .i64 ((prt (moonV (qt)) 27) + 1), .int .i64 ((prt (rmod ((moonV (qt)) + (sunV (qt))) ((360 : Int) : Rat)) 27) + 1), .int .i64 ((prt (rmod ((moonV (qt)) - (sunV (qt))) ((360 : Int) : Rat)) 60) + 1)]) o2 rfl rfl (ocI (ocI (ocI (ocI (ocI oc0))))) (o := 0) rfl
  refine E.st hF (r_store (hF.at 10 rfl) (hF.at 0 rfl) (hr _ rfl)) rfl rfl fun a hF => ?_
  clear hr
  replace bel := tu.below bel ge2
  clear tu
  replace o2 := on
  clear on
  refine E.nil ?_
  refine wp_ret ?_
  refine bodyPost_ret (res_cell Tryz.results19 (hF.at 10 rfl) (ldb_Elem (vs := [.int .i64 (prt (sunV (qt)) 12), .int .i64 ((prt (rmod ((moonV (qt)) - (sunV (qt))) ((360 : Int) : Rat)) 30) + 1), .int .i64 ((prt (moonV (qt)) 27) + 1), .int .i64 ((prt (rmod ((moonV (qt)) + (sunV (qt))) ((360 : Int) : Rat)) 27) + 1), .int .i64 ((prt (rmod ((moonV (qt)) - (sunV (qt))) ((360 : Int) : Rat)) 60) + 1)]) o2 rfl rfl)) hF.dfr ?_
  exact ⟨rfl, bel⟩

set_option maxHeartbeats 4000000 in
theorem oKarana_any (n : Int) (w : World) :
    Calls Tryz.prog 24 #[.int .i64 n] w (ValPost w (.int .i64 (kar n))) := by
  have bel : Below w.heap.size w w := Below.refl _ _
  refine E.enter (nt := 22) (L := [(0, .int .i64 n)]) Tryz.func24 rfl rfl rfl (args_cons (i := 0) rfl args_nil) ?_
  intro a hF
  refine wp_seq ?_
  refine E.seq ?_
  refine E.opv hF (r_assign ev_c) rfl rfl rfl rfl fun a hF => ?_
  refine E.nil ?_
  refine wp_block ?_
  refine wp_seq ?_
  refine E.seq ?_
  refine E.opv hF (r_move (hF.at 1 rfl)) rfl rfl rfl rfl fun a hF => ?_
  by_cases hc1 : n < 1
  · first
    | (exfalso; omega)
    | (refine E.opv hF (r_bin (hF.at 0 rfl) ev_c eg_scalar (bi_int (ic_lss (c := true) (dec_tt hc1)) (by simp))) rfl rfl rfl rfl fun a hF => ?_
       refine E.opv hF (r_move (hF.at 0 rfl)) rfl rfl rfl rfl fun a hF => ?_
       refine E.unwanted hF (wanted_by rfl rfl (hF.at 0 rfl) rfl) rfl rfl rfl fun a hF => ?_
       refine E.unwanted hF (wanted_by rfl rfl (hF.at 1 rfl) rfl) rfl rfl rfl fun a hF => ?_
       refine E.opv hF (r_pick_t (hF.at 2 rfl) ev_c) rfl rfl rfl rfl fun a hF => ?_
       refine E.opv hF (r_assign (hF.at 0 rfl)) rfl rfl rfl rfl fun a hF => ?_
       refine E.nil ?_
       refine wp_cond_true (hF.at 0 rfl) ?_
       refine wp_seq ?_
       refine E.seq ?_
       refine E.opset (L' := [(2, .int .i64 0), (7, .bool true), (13, .bool true), (12, undef), (11, undef), (10, .bool true), (9, .bool true), (8, .int .i64 n), (0, .int .i64 n)]) hF (r_assign ev_c) rfl rfl rfl rfl fun a hF => ?_
       refine E.nil ?_
       refine wp_ret ?_
       refine bodyPost_ret (res_tmp Tryz.results24 (hF.at 0 rfl)) hF.dfr ?_
       refine ⟨rv_int ?_, bel⟩
       unfold kar
       (repeat' split) <;> first | omega | rfl)
  · first
    | (exfalso; omega)
    | (refine E.opv hF (r_bin (hF.at 0 rfl) ev_c eg_scalar (bi_int (ic_lss (c := false) (dec_ff hc1)) (by simp))) rfl rfl rfl rfl fun a hF => ?_
       refine E.opv hF (r_move (hF.at 0 rfl)) rfl rfl rfl rfl fun a hF => ?_
       refine E.opvg hF (r_move (hF.at 4 rfl)) (wanted_by rfl rfl (hF.at 0 rfl) rfl) rfl rfl rfl fun a hF => ?_
       by_cases hc2 : 60 < n
       · first
         | (exfalso; omega)
         | (refine E.opvg hF (r_bin (hF.at 0 rfl) ev_c eg_scalar (bi_int (ic_gtr (c := true) (dec_tt hc2)) (by simp))) (wanted_by rfl rfl (hF.at 1 rfl) rfl) rfl rfl rfl fun a hF => ?_
            refine E.opv hF (r_pick_f (hF.at 2 rfl) (hF.at 0 rfl)) rfl rfl rfl rfl fun a hF => ?_
            refine E.opv hF (r_assign (hF.at 0 rfl)) rfl rfl rfl rfl fun a hF => ?_
            refine E.nil ?_
            refine wp_cond_true (hF.at 0 rfl) ?_
            refine wp_seq ?_
            refine E.seq ?_
            refine E.opset (L' := [(2, .int .i64 0), (7, .bool true), (13, .bool true), (12, .bool true), (11, .int .i64 n), (10, .bool false), (9, .bool false), (8, .int .i64 n), (0, .int .i64 n)]) hF (r_assign ev_c) rfl rfl rfl rfl fun a hF => ?_
            refine E.nil ?_
            refine wp_ret ?_
            refine bodyPost_ret (res_tmp Tryz.results24 (hF.at 0 rfl)) hF.dfr ?_
            refine ⟨rv_int ?_, bel⟩
            unfold kar
            (repeat' split) <;> first | omega | rfl)
       · first
         | (exfalso; omega)
         | (refine E.opvg hF (r_bin (hF.at 0 rfl) ev_c eg_scalar (bi_int (ic_gtr (c := false) (dec_ff hc2)) (by simp))) (wanted_by rfl rfl (hF.at 1 rfl) rfl) rfl rfl rfl fun a hF => ?_
            refine E.opv hF (r_pick_f (hF.at 2 rfl) (hF.at 0 rfl)) rfl rfl rfl rfl fun a hF => ?_
            refine E.opv hF (r_assign (hF.at 0 rfl)) rfl rfl rfl rfl fun a hF => ?_
            refine E.nil ?_
            refine wp_cond_false (hF.at 0 rfl) ?_
            refine wp_seq ?_
            refine E.seq ?_
            refine E.opv hF (r_move (hF.at 8 rfl)) rfl rfl rfl rfl fun a hF => ?_
            by_cases hc3 : n = 1
            · first
              | (exfalso; omega)
              | (refine E.opv hF (r_bin (hF.at 0 rfl) ev_c eg_scalar (bi_int (ic_eql (c := true) (dec_tt hc3)) (by simp))) rfl rfl rfl rfl fun a hF => ?_
                 refine E.opv hF (r_assign (hF.at 0 rfl)) rfl rfl rfl rfl fun a hF => ?_
                 refine E.nil ?_
                 refine wp_cond_true (hF.at 0 rfl) ?_
                 refine wp_seq ?_
                 refine E.seq ?_
                 refine E.opset (L' := [(2, .int .i64 11), (14, .bool true), (16, .bool true), (15, .int .i64 n), (7, .bool false), (13, .bool false), (12, .bool false), (11, .int .i64 n), (10, .bool false), (9, .bool false), (8, .int .i64 n), (0, .int .i64 n)]) hF (r_assign ev_c) rfl rfl rfl rfl fun a hF => ?_
                 refine E.nil ?_
                 refine wp_ret ?_
                 refine bodyPost_ret (res_tmp Tryz.results24 (hF.at 0 rfl)) hF.dfr ?_
                 refine ⟨rv_int ?_, bel⟩
                 unfold kar
                 (repeat' split) <;> first | omega | rfl)
            · first
              | (exfalso; omega)
              | (refine E.opv hF (r_bin (hF.at 0 rfl) ev_c eg_scalar (bi_int (ic_eql (c := false) (dec_ff hc3)) (by simp))) rfl rfl rfl rfl fun a hF => ?_
                 refine E.opv hF (r_assign (hF.at 0 rfl)) rfl rfl rfl rfl fun a hF => ?_
                 refine E.nil ?_
                 refine wp_cond_false (hF.at 0 rfl) ?_
                 refine wp_seq ?_
                 refine E.seq ?_
                 refine E.opv hF (r_move (hF.at 11 rfl)) rfl rfl rfl rfl fun a hF => ?_
                 by_cases hc4 : 57 < n
                 · first
                   | (exfalso; omega)
                   | (refine E.opv hF (r_bin (hF.at 0 rfl) ev_c eg_scalar (bi_int (ic_gtr (c := true) (dec_tt hc4)) (by simp))) rfl rfl rfl rfl fun a hF => ?_
                      refine E.opv hF (r_assign (hF.at 0 rfl)) rfl rfl rfl rfl fun a hF => ?_
                      refine E.nil ?_
                      refine wp_cond_true (hF.at 0 rfl) ?_
                      refine wp_seq ?_
                      refine E.seq ?_
                      refine E.opv hF (r_move (hF.at 14 rfl)) rfl rfl rfl rfl fun a hF => ?_
                      refine E.opv hF (r_bin (hF.at 0 rfl) ev_c eg_scalar (ia_sub (by omega) (by omega))) rfl rfl rfl rfl fun a hF => ?_
                      refine E.opset (L' := [(2, .int .i64 (n - 50)), (21, .int .i64 (n - 50)), (20, .int .i64 n), (17, .bool true), (19, .bool true), (18, .int .i64 n), (14, .bool false), (16, .bool false), (15, .int .i64 n), (7, .bool false), (13, .bool false), (12, .bool false), (11, .int .i64 n), (10, .bool false), (9, .bool false), (8, .int .i64 n), (0, .int .i64 n)]) hF (r_assign (hF.at 0 rfl)) rfl rfl rfl rfl fun a hF => ?_
                      refine E.nil ?_
                      refine wp_ret ?_
                      refine bodyPost_ret (res_tmp Tryz.results24 (hF.at 0 rfl)) hF.dfr ?_
                      refine ⟨rv_int ?_, bel⟩
                      unfold kar
                      (repeat' split) <;> first | omega | rfl)
                 · first
                   | (exfalso; omega)
                   | (refine E.opv hF (r_bin (hF.at 0 rfl) ev_c eg_scalar (bi_int (ic_gtr (c := false) (dec_ff hc4)) (by simp))) rfl rfl rfl rfl fun a hF => ?_
                      refine E.opv hF (r_assign (hF.at 0 rfl)) rfl rfl rfl rfl fun a hF => ?_
                      refine E.nil ?_
                      refine wp_cond_false (hF.at 0 rfl) ?_
                      refine wp_seq ?_
                      refine E.seq ?_
                      refine E.opv hF (r_move (hF.at 14 rfl)) rfl rfl rfl rfl fun a hF => ?_
                      refine E.opv hF (r_bin (hF.at 0 rfl) ev_c eg_scalar (ia_sub (by omega) (by omega))) rfl rfl rfl rfl fun a hF => ?_
                      refine E.opv hF (r_bin (hF.at 0 rfl) ev_c eg_scalar (id_remn (a := n - 2) (b := 7) (by omega) (by omega))) rfl rfl rfl rfl fun a hF => ?_
                      refine E.opv hF (r_bin (hF.at 0 rfl) ev_c eg_scalar (ia_add (by omega) (by omega))) rfl rfl rfl rfl fun a hF => ?_
                      refine E.opset (L' := [(2, .int .i64 (((n - 2) % 7) + 1)), (6, .int .i64 (((n - 2) % 7) + 1)), (5, .int .i64 ((n - 2) % 7)), (4, .int .i64 (n - 2)), (3, .int .i64 n), (17, .bool false), (19, .bool false), (18, .int .i64 n), (14, .bool false), (16, .bool false), (15, .int .i64 n), (7, .bool false), (13, .bool false), (12, .bool false), (11, .int .i64 n), (10, .bool false), (9, .bool false), (8, .int .i64 n), (0, .int .i64 n)]) hF (r_assign (hF.at 0 rfl)) rfl rfl rfl rfl fun a hF => ?_
                      refine E.nil ?_
                      refine wp_ret ?_
                      refine bodyPost_ret (res_tmp Tryz.results24 (hF.at 0 rfl)) hF.dfr ?_
                      refine ⟨rv_int ?_, bel⟩
                      unfold kar
                      (repeat' split) <;> first | omega | rfl))))

set_option maxHeartbeats 4000000 in
theorem awake12_any (w : World) (hT : TabD w) :
    Calls Tryz.prog 5 #[] w (ValPost w (.bool true)) := by
  have bel : Below w.heap.size w w := Below.refl _ _
  refine E.enter (nt := 21) (L := []) Tryz.func5 rfl rfl rfl args_nil ?_
  intro a hF
  refine wp_seq ?_
  refine E.seq ?_
  refine E.opv hF (r_assign ev_c) rfl rfl rfl rfl fun a hF => ?_
  refine E.nil ?_
  refine wp_seq ?_
  refine E.seq ?_
  refine E.call hF (r_call Tryz.func23 en23.1 en23.2 map0) (mCreation_any _) rfl rfl rfl rfl ?_
  rintro e w1 ⟨vv2, rfl, hh3, bb⟩
  refine ⟨_, rfl, ?_⟩
  intro a hF
  replace bel := below_to bel bb
  clear bb
  obtain ⟨b4, ad4, n4, c4, ae4, m4, d4, rfl, hn4, hd4⟩ := Rq.shape hh3
  have hf5 := Wc.abs hn4
  obtain ⟨g1, w6, ge1, hr, bb, o1⟩ := own_alloc (P := Tryz.prog) (w := w1) (cs := [.bool false, .slice none 0 0, .slice none 0 0]) 32 ze_Rat rfl (niB (niS (niS ni0)))
  replace ge1 : w.heap.size ≤ g1 := by rw [← ge1]; exact bel.size
  refine E.opv hF (r_alloc hr) rfl rfl rfl rfl fun a hF => ?_
  clear hr
  replace hh3 := hh3.below bb
  replace hn4 := hn4.below bb
  replace hf5 := hf5.below bb
  replace hd4 := hd4.below bb
  replace bel := below_to bel bb
  clear bb
  obtain ⟨w7, hr, tu, on⟩ := st_Rat (vs := [.bool b4, .slice ad4 n4 c4, .slice ae4 m4 d4]) o1 rfl rfl (ocB (ocS (ocS oc0))) (niB (niS (niS ni0))) (o := 0) rfl
  have kp := tu.keep o1
  refine E.st hF (r_store (hF.at 0 rfl) (hF.at 1 rfl) (hr _ rfl)) rfl rfl fun a hF => ?_
  clear hr
  replace hh3 := hh3.keep kp
  replace hn4 := hn4.keep kp
  replace hf5 := hf5.keep kp
  replace hd4 := hd4.keep kp
  replace bel := tu.below bel ge1
  clear tu kp
  replace o1 := on
  clear on
  refine E.nil ?_
  refine wp_seq ?_
  refine E.seq ?_
  refine E.call hF (r_call Tryz.func24 en24.1 en24.2 (map1 ev_c)) (oKarana_any 1 _) rfl rfl rfl rfl ?_
  rintro e w8 ⟨rfl, bb⟩
  refine ⟨_, rfl, ?_⟩
  intro a hF
  replace hf5 := hf5.below bb
  replace hd4 := hd4.below bb
  replace hh3 := hh3.below bb
  replace hn4 := hn4.below bb
  replace o1 := o1.below bb
  replace bel := below_to bel bb
  clear bb
  refine E.opv hF (r_bin (hF.at 0 rfl) ev_c eg_scalar (bi_int (ic_eql (c := true) (dec_tt (by decide +kernel))) (by simp))) rfl rfl rfl rfl fun a hF => ?_
  refine E.opv hF (r_move (hF.at 0 rfl)) rfl rfl rfl rfl fun a hF => ?_
  refine E.callg hF (r_call Tryz.func24 en24.1 en24.2 (map1 ev_c)) (oKarana_any 57 _) (wanted_by rfl rfl (hF.at 0 rfl) rfl) rfl rfl rfl ?_
  rintro e w9 ⟨rfl, bb⟩
  refine ⟨_, rfl, ?_⟩
  intro a hF
  replace hf5 := hf5.below bb
  replace hd4 := hd4.below bb
  replace hh3 := hh3.below bb
  replace hn4 := hn4.below bb
  replace o1 := o1.below bb
  replace bel := below_to bel bb
  clear bb
  refine E.opvg hF (r_bin (hF.at 0 rfl) ev_c eg_scalar (bi_int (ic_eql (c := true) (dec_tt (by decide +kernel))) (by simp))) (wanted_by rfl rfl (hF.at 1 rfl) rfl) rfl rfl rfl fun a hF => ?_
  refine E.opv hF (r_pick_t (hF.at 2 rfl) (hF.at 0 rfl)) rfl rfl rfl rfl fun a hF => ?_
  refine E.opv hF (r_move (hF.at 0 rfl)) rfl rfl rfl rfl fun a hF => ?_
  refine E.opvg hF (r_load (hF.at 7 rfl) (ld_Rat (vs := [.bool b4, .slice ad4 n4 c4, .slice ae4 m4 d4]) o1 rfl rfl)) (wanted_by rfl rfl (hF.at 0 rfl) rfl) rfl rfl rfl fun a hF => ?_
  refine E.callg hF (r_call Tryz.func9 en9.1 en9.2 (map1 (hF.at 0 rfl))) (oSun_any _ (cre) 2 _ (hT.below bel) hh3 cre_lim (by omega)) (wanted_by rfl rfl (hF.at 1 rfl) rfl) rfl rfl rfl ?_
  rintro e w10 ⟨vv11, rfl, hh12, bb⟩
  refine ⟨_, rfl, ?_⟩
  intro a hF
  replace hf5 := hf5.below bb
  replace hd4 := hd4.below bb
  replace hh3 := hh3.below bb
  replace hn4 := hn4.below bb
  replace o1 := o1.below bb
  replace bel := below_to bel bb
  clear bb
  obtain ⟨b13, ad13, n13, c13, ae13, m13, d13, rfl, hn13, hd13⟩ := Rq.shape hh12
  have hf14 := Wc.abs hn13
  refine E.callg hF (r_call Tryz.func25 en25.1 en25.2 (map1 (hF.at 0 rfl))) (rsgn_any _ _ _ hh12) (wanted_by rfl rfl (hF.at 2 rfl) rfl) rfl rfl rfl ?_
  rintro e w15 ⟨rfl, bb⟩
  refine ⟨_, rfl, ?_⟩
  intro a hF
  replace hf5 := hf5.below bb
  replace hd4 := hd4.below bb
  replace hh3 := hh3.below bb
  replace hn4 := hn4.below bb
  replace o1 := o1.below bb
  replace bel := below_to bel bb
  clear bb
  refine E.opvg hF (r_bin (hF.at 0 rfl) ev_c eg_scalar (bi_int (ic_eql (c := true) (dec_tt (by decide +kernel))) (by simp))) (wanted_by rfl rfl (hF.at 3 rfl) rfl) rfl rfl rfl fun a hF => ?_
  refine E.opv hF (r_pick_t (hF.at 4 rfl) (hF.at 0 rfl)) rfl rfl rfl rfl fun a hF => ?_
  refine E.opv hF (r_move (hF.at 0 rfl)) rfl rfl rfl rfl fun a hF => ?_
  refine E.opvg hF (r_load (hF.at 13 rfl) (ld_Rat (vs := [.bool b4, .slice ad4 n4 c4, .slice ae4 m4 d4]) o1 rfl rfl)) (wanted_by rfl rfl (hF.at 0 rfl) rfl) rfl rfl rfl fun a hF => ?_
  refine E.callg hF (r_call Tryz.func19 en19.1 en19.2 (map1 (hF.at 0 rfl))) (oElem_any _ (cre) 2 _ (hT.below bel) hh3 cre_lim (by omega)) (wanted_by rfl rfl (hF.at 1 rfl) rfl) rfl rfl rfl ?_
  rintro e w16 ⟨rfl, bb⟩
  refine ⟨_, rfl, ?_⟩
  intro a hF
  replace bel := below_to bel bb
  clear bb
  refine E.opvg hF (r_build (pair4 ev_c ev_c ev_c ev_c) (bd_Elem_1234 _ _ _ _ _)) (wanted_by rfl rfl (hF.at 2 rfl) rfl) rfl rfl rfl fun a hF => ?_
  refine E.opvg hF (r_bin (hF.at 1 rfl) (hF.at 0 rfl) eg_Elem (es_Elem (dec_tt (by decide +kernel)))) (wanted_by rfl rfl (hF.at 3 rfl) rfl) rfl rfl rfl fun a hF => ?_
  refine E.opv hF (r_pick_t (hF.at 4 rfl) (hF.at 0 rfl)) rfl rfl rfl rfl fun a hF => ?_
  refine E.opset (L' := [(0, .bool true), (20, .bool true), (19, .bool true), (18, .agg #[.int .i64 0, .int .i64 1, .int .i64 1, .int .i64 1, .int .i64 1]), (17, .agg #[.int .i64 (prt (sunV (cre)) 12), .int .i64 (prt (phaseV (cre)) 30 + 1), .int .i64 (prt (moonV (cre)) 27 + 1), .int .i64 (prt (yogaV (cre)) 27 + 1), .int .i64 (prt (phaseV (cre)) 60 + 1)]), (16, .agg #[.bool b4, .slice ad4 n4 c4, .slice ae4 m4 d4]), (15, .bool true), (14, .bool true), (13, .bool true), (12, .int .i64 (sz (Rat.num (sunV (cre))))), (11, .agg #[.bool b13, .slice ad13 n13 c13, .slice ae13 m13 d13]), (10, .agg #[.bool b4, .slice ad4 n4 c4, .slice ae4 m4 d4]), (9, .bool true), (8, .bool true), (7, .bool true), (6, .int .i64 (kar 57)), (5, .bool true), (4, .bool true), (3, .int .i64 (kar 1)), (1, .pointer (some ⟨g1, 0, none⟩)), (2, .agg #[.bool b4, .slice ad4 n4 c4, .slice ae4 m4 d4])]) hF (r_assign (hF.at 0 rfl)) rfl rfl rfl rfl fun a hF => ?_
  refine E.nil ?_
  refine wp_ret ?_
  refine bodyPost_ret (res_tmp Tryz.results5 (hF.at 0 rfl)) hF.dfr ?_
  exact ⟨rfl, bel⟩

end Go.Proofs.YtmpdbkdijfpbbaaGreatDoor
