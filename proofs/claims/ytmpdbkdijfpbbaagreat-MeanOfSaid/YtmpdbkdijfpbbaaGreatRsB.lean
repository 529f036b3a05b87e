/- The document's mean longitudes. -/
import Derived.Test.YtmpdbkdijfpbbaaGreatRsA
import Derived.Test.YtmpdbkdijfpbbaaGreatMnA
import Derived.Test.YtmpdbkdijfpbbaaGreatSh
namespace Go.Proofs.YtmpdbkdijfpbbaaGreat
open Go.RowKit
set_option maxRecDepth 100000
set_option linter.unusedVariables false

theorem en31 : (Tryz.f31.name == "runtime.NumGoroutine") = false ∧ Tryz.f31.body.isNone = false := ⟨by decide +kernel, by kernel_rfl⟩
theorem en32 : (Tryz.f32.name == "runtime.NumGoroutine") = false ∧ Tryz.f32.body.isNone = false := ⟨by decide +kernel, by kernel_rfl⟩
theorem en33 : (Tryz.f33.name == "runtime.NumGoroutine") = false ∧ Tryz.f33.body.isNone = false := ⟨by decide +kernel, by kernel_rfl⟩
theorem en34 : (Tryz.f34.name == "runtime.NumGoroutine") = false ∧ Tryz.f34.body.isNone = false := ⟨by decide +kernel, by kernel_rfl⟩
theorem en35 : (Tryz.f35.name == "runtime.NumGoroutine") = false ∧ Tryz.f35.body.isNone = false := ⟨by decide +kernel, by kernel_rfl⟩
theorem en11 : (Tryz.f11.name == "runtime.NumGoroutine") = false ∧ Tryz.f11.body.isNone = false := ⟨by decide +kernel, by kernel_rfl⟩
theorem en13 : (Tryz.f13.name == "runtime.NumGoroutine") = false ∧ Tryz.f13.body.isNone = false := ⟨by decide +kernel, by kernel_rfl⟩
theorem en8 : (Tryz.f8.name == "runtime.NumGoroutine") = false ∧ Tryz.f8.body.isNone = false := ⟨by decide +kernel, by kernel_rfl⟩
set_option maxHeartbeats 4000000 in
theorem rYear11_any (w : World) :
    Calls Tryz.prog 31 #[] w (RrPost w pyr 7) := by
  have bel : Below w.heap.size w w := Below.refl _ _
  refine E.enter (nt := 2) (L := []) Tryz.func31 rfl rfl rfl args_nil ?_
  intro a hF
  refine wp_seq ?_
  refine E.seq ?_
  obtain ⟨g0, w1, ge0, hr, bb, o0⟩ := own_alloc (P := Tryz.prog) (w := w) (cs := [.bool false, .slice none 0 0, .slice none 0 0]) 39 ze_RRat rfl (niB (niS (niS ni0)))
  replace ge0 : w.heap.size ≤ g0 := by rw [← ge0]; exact bel.size
  refine E.opv hF (r_alloc hr) rfl rfl rfl rfl fun a hF => ?_
  clear hr
  replace bel := below_to bel bb
  clear bb
  refine E.nil ?_
  refine wp_seq ?_
  refine E.seq ?_
  refine E.call hF (r_call Tryz.func47 en47.1 en47.2 (map2 ev_c ev_c)) (dOf_any (394479457) (1080000) _ (by decide) (by decide) (by decide) (by decide)) rfl rfl rfl rfl ?_
  rintro e w2 ⟨vv3, rfl, hh4, bb⟩
  refine ⟨_, rfl, ?_⟩
  intro a hF
  replace o0 := o0.below bb
  replace bel := below_to bel bb
  clear bb
  obtain ⟨b5, ad5, n5, c5, ae5, m5, d5, z5, D5, rfl, hn5, hd5, hD5, hq5, lz5, lD5⟩ := Rr.shape hh4
  have ha5 := hn5.abs
  obtain ⟨w6, hr, tu, on⟩ := st_RRat (vs := [.bool b5, .slice ad5 n5 c5, .slice ae5 m5 d5]) o0 rfl rfl (ocB (ocS (ocS oc0))) (niB (niS (niS ni0))) (o := 0) rfl
  have kp := tu.keep o0
  refine E.st hF (r_store (hF.at 1 rfl) (hF.at 0 rfl) (hr _ rfl)) rfl rfl fun a hF => ?_
  clear hr
  replace hh4 := hh4.keep kp
  replace hn5 := hn5.keep kp
  replace ha5 := ha5.keep kp
  replace hd5 := hd5.keep kp
  replace bel := tu.below bel ge0
  clear tu kp
  replace o0 := on
  clear on
  refine E.nil ?_
  refine wp_ret ?_
  refine bodyPost_ret (res_cell Tryz.results31 (hF.at 1 rfl) (ld_RRat (vs := [.bool b5, .slice ad5 n5 c5, .slice ae5 m5 d5]) o0 rfl rfl)) hF.dfr ?_
  exact ⟨_, rfl, Rr.cast (Rr.up hh4 _ (by omega)) (by decide +kernel), bel⟩

set_option maxHeartbeats 4000000 in
theorem rMonth11_any (w : World) :
    Calls Tryz.prog 32 #[] w (RrPost w pmo 7) := by
  have bel : Below w.heap.size w w := Below.refl _ _
  refine E.enter (nt := 4) (L := []) Tryz.func32 rfl rfl rfl args_nil ?_
  intro a hF
  refine wp_seq ?_
  refine E.seq ?_
  obtain ⟨g0, w1, ge0, hr, bb, o0⟩ := own_alloc (P := Tryz.prog) (w := w) (cs := [.bool false, .slice none 0 0, .slice none 0 0]) 39 ze_RRat rfl (niB (niS (niS ni0)))
  replace ge0 : w.heap.size ≤ g0 := by rw [← ge0]; exact bel.size
  refine E.opv hF (r_alloc hr) rfl rfl rfl rfl fun a hF => ?_
  clear hr
  replace bel := below_to bel bb
  clear bb
  refine E.nil ?_
  refine wp_seq ?_
  refine E.seq ?_
  refine E.call hF (r_call Tryz.func47 en47.1 en47.2 (map2 ev_c ev_c)) (dOf1b_any (27) _ (by decide) (by decide)) rfl rfl rfl rfl ?_
  rintro e w2 ⟨vv3, rfl, hh4, bb⟩
  refine ⟨_, rfl, ?_⟩
  intro a hF
  replace o0 := o0.below bb
  replace bel := below_to bel bb
  clear bb
  obtain ⟨b5, ad5, n5, c5, ae5, m5, d5, z5, D5, rfl, hn5, hd5, hD5, hq5, lz5, lD5⟩ := Rr.shape hh4
  have ha5 := hn5.abs
  refine E.call hF (r_call Tryz.func47 en47.1 en47.2 (map2 ev_c ev_c)) (dOf_any (4644439) (14438334) _ (by decide) (by decide) (by decide) (by decide)) rfl rfl rfl rfl ?_
  rintro e w6 ⟨vv7, rfl, hh8, bb⟩
  refine ⟨_, rfl, ?_⟩
  intro a hF
  replace hh4 := hh4.below bb
  replace hn5 := hn5.below bb
  replace ha5 := ha5.below bb
  replace hd5 := hd5.below bb
  replace o0 := o0.below bb
  replace bel := below_to bel bb
  clear bb
  obtain ⟨b9, ad9, n9, c9, ae9, m9, d9, z9, D9, rfl, hn9, hd9, hD9, hq9, lz9, lD9⟩ := Rr.shape hh8
  have ha9 := hn9.abs
  refine E.call hF (r_call Tryz.func65 en65.1 en65.2 (map2 (hF.at 1 rfl) (hF.at 0 rfl))) (dAdd2_any _ _ _ _ 2 2 _ hh4 hh8 (by omega) (by omega) (by omega) (by omega)) rfl rfl rfl rfl ?_
  rintro e w10 ⟨vv11, rfl, hh12, bb⟩
  refine ⟨_, rfl, ?_⟩
  intro a hF
  replace o0 := o0.below bb
  replace bel := below_to bel bb
  clear bb
  obtain ⟨b13, ad13, n13, c13, ae13, m13, d13, z13, D13, rfl, hn13, hd13, hD13, hq13, lz13, lD13⟩ := Rr.shape hh12
  have ha13 := hn13.abs
  obtain ⟨w14, hr, tu, on⟩ := st_RRat (vs := [.bool b13, .slice ad13 n13 c13, .slice ae13 m13 d13]) o0 rfl rfl (ocB (ocS (ocS oc0))) (niB (niS (niS ni0))) (o := 0) rfl
  have kp := tu.keep o0
  refine E.st hF (r_store (hF.at 3 rfl) (hF.at 0 rfl) (hr _ rfl)) rfl rfl fun a hF => ?_
  clear hr
  replace hh12 := hh12.keep kp
  replace hn13 := hn13.keep kp
  replace ha13 := ha13.keep kp
  replace hd13 := hd13.keep kp
  replace bel := tu.below bel ge0
  clear tu kp
  replace o0 := on
  clear on
  refine E.nil ?_
  refine wp_ret ?_
  refine bodyPost_ret (res_cell Tryz.results32 (hF.at 3 rfl) (ld_RRat (vs := [.bool b13, .slice ad13 n13 c13, .slice ae13 m13 d13]) o0 rfl rfl)) hF.dfr ?_
  exact ⟨_, rfl, Rr.cast (Rr.up hh12 _ (by omega)) (by decide +kernel), bel⟩

set_option maxHeartbeats 4000000 in
theorem rSynodic11_any (w : World) :
    Calls Tryz.prog 33 #[] w (RrPost w psy 7) := by
  have bel : Below w.heap.size w w := Below.refl _ _
  refine E.enter (nt := 4) (L := []) Tryz.func33 rfl rfl rfl args_nil ?_
  intro a hF
  refine wp_seq ?_
  refine E.seq ?_
  obtain ⟨g0, w1, ge0, hr, bb, o0⟩ := own_alloc (P := Tryz.prog) (w := w) (cs := [.bool false, .slice none 0 0, .slice none 0 0]) 39 ze_RRat rfl (niB (niS (niS ni0)))
  replace ge0 : w.heap.size ≤ g0 := by rw [← ge0]; exact bel.size
  refine E.opv hF (r_alloc hr) rfl rfl rfl rfl fun a hF => ?_
  clear hr
  replace bel := below_to bel bb
  clear bb
  refine E.nil ?_
  refine wp_seq ?_
  refine E.seq ?_
  refine E.call hF (r_call Tryz.func47 en47.1 en47.2 (map2 ev_c ev_c)) (dOf1b_any (29) _ (by decide) (by decide)) rfl rfl rfl rfl ?_
  rintro e w2 ⟨vv3, rfl, hh4, bb⟩
  refine ⟨_, rfl, ?_⟩
  intro a hF
  replace o0 := o0.below bb
  replace bel := below_to bel bb
  clear bb
  obtain ⟨b5, ad5, n5, c5, ae5, m5, d5, z5, D5, rfl, hn5, hd5, hD5, hq5, lz5, lD5⟩ := Rr.shape hh4
  have ha5 := hn5.abs
  refine E.call hF (r_call Tryz.func47 en47.1 en47.2 (map2 ev_c ev_c)) (dOf_any (7087771) (13358334) _ (by decide) (by decide) (by decide) (by decide)) rfl rfl rfl rfl ?_
  rintro e w6 ⟨vv7, rfl, hh8, bb⟩
  refine ⟨_, rfl, ?_⟩
  intro a hF
  replace hh4 := hh4.below bb
  replace hn5 := hn5.below bb
  replace ha5 := ha5.below bb
  replace hd5 := hd5.below bb
  replace o0 := o0.below bb
  replace bel := below_to bel bb
  clear bb
  obtain ⟨b9, ad9, n9, c9, ae9, m9, d9, z9, D9, rfl, hn9, hd9, hD9, hq9, lz9, lD9⟩ := Rr.shape hh8
  have ha9 := hn9.abs
  refine E.call hF (r_call Tryz.func65 en65.1 en65.2 (map2 (hF.at 1 rfl) (hF.at 0 rfl))) (dAdd2_any _ _ _ _ 2 2 _ hh4 hh8 (by omega) (by omega) (by omega) (by omega)) rfl rfl rfl rfl ?_
  rintro e w10 ⟨vv11, rfl, hh12, bb⟩
  refine ⟨_, rfl, ?_⟩
  intro a hF
  replace o0 := o0.below bb
  replace bel := below_to bel bb
  clear bb
  obtain ⟨b13, ad13, n13, c13, ae13, m13, d13, z13, D13, rfl, hn13, hd13, hD13, hq13, lz13, lD13⟩ := Rr.shape hh12
  have ha13 := hn13.abs
  obtain ⟨w14, hr, tu, on⟩ := st_RRat (vs := [.bool b13, .slice ad13 n13 c13, .slice ae13 m13 d13]) o0 rfl rfl (ocB (ocS (ocS oc0))) (niB (niS (niS ni0))) (o := 0) rfl
  have kp := tu.keep o0
  refine E.st hF (r_store (hF.at 3 rfl) (hF.at 0 rfl) (hr _ rfl)) rfl rfl fun a hF => ?_
  clear hr
  replace hh12 := hh12.keep kp
  replace hn13 := hn13.keep kp
  replace ha13 := ha13.keep kp
  replace hd13 := hd13.keep kp
  replace bel := tu.below bel ge0
  clear tu kp
  replace o0 := on
  clear on
  refine E.nil ?_
  refine wp_ret ?_
  refine bodyPost_ret (res_cell Tryz.results33 (hF.at 3 rfl) (ld_RRat (vs := [.bool b13, .slice ad13 n13 c13, .slice ae13 m13 d13]) o0 rfl rfl)) hF.dfr ?_
  exact ⟨_, rfl, Rr.cast (Rr.up hh12 _ (by omega)) (by decide +kernel), bel⟩

set_option maxHeartbeats 4000000 in
theorem rAnomalyYear11_any (w : World) :
    Calls Tryz.prog 34 #[] w (RrPost w pay 7) := by
  have bel : Below w.heap.size w w := Below.refl _ _
  refine E.enter (nt := 2) (L := []) Tryz.func34 rfl rfl rfl args_nil ?_
  intro a hF
  refine wp_seq ?_
  refine E.seq ?_
  obtain ⟨g0, w1, ge0, hr, bb, o0⟩ := own_alloc (P := Tryz.prog) (w := w) (cs := [.bool false, .slice none 0 0, .slice none 0 0]) 39 ze_RRat rfl (niB (niS (niS ni0)))
  replace ge0 : w.heap.size ≤ g0 := by rw [← ge0]; exact bel.size
  refine E.opv hF (r_alloc hr) rfl rfl rfl rfl fun a hF => ?_
  clear hr
  replace bel := below_to bel bb
  clear bb
  refine E.nil ?_
  refine wp_seq ?_
  refine E.seq ?_
  refine E.call hF (r_call Tryz.func47 en47.1 en47.2 (map2 ev_c ev_c)) (dOf_any (1577917828000) (4319999613) _ (by decide) (by decide) (by decide) (by decide)) rfl rfl rfl rfl ?_
  rintro e w2 ⟨vv3, rfl, hh4, bb⟩
  refine ⟨_, rfl, ?_⟩
  intro a hF
  replace o0 := o0.below bb
  replace bel := below_to bel bb
  clear bb
  obtain ⟨b5, ad5, n5, c5, ae5, m5, d5, z5, D5, rfl, hn5, hd5, hD5, hq5, lz5, lD5⟩ := Rr.shape hh4
  have ha5 := hn5.abs
  obtain ⟨w6, hr, tu, on⟩ := st_RRat (vs := [.bool b5, .slice ad5 n5 c5, .slice ae5 m5 d5]) o0 rfl rfl (ocB (ocS (ocS oc0))) (niB (niS (niS ni0))) (o := 0) rfl
  have kp := tu.keep o0
  refine E.st hF (r_store (hF.at 1 rfl) (hF.at 0 rfl) (hr _ rfl)) rfl rfl fun a hF => ?_
  clear hr
  replace hh4 := hh4.keep kp
  replace hn5 := hn5.keep kp
  replace ha5 := ha5.keep kp
  replace hd5 := hd5.keep kp
  replace bel := tu.below bel ge0
  clear tu kp
  replace o0 := on
  clear on
  refine E.nil ?_
  refine wp_ret ?_
  refine bodyPost_ret (res_cell Tryz.results34 (hF.at 1 rfl) (ld_RRat (vs := [.bool b5, .slice ad5 n5 c5, .slice ae5 m5 d5]) o0 rfl rfl)) hF.dfr ?_
  exact ⟨_, rfl, Rr.cast (Rr.up hh4 _ (by omega)) (by decide +kernel), bel⟩

set_option maxHeartbeats 4000000 in
theorem rAnomalyMonth11_any (w : World) :
    Calls Tryz.prog 35 #[] w (RrPost w pam 7) := by
  have bel : Below w.heap.size w w := Below.refl _ _
  refine E.enter (nt := 2) (L := []) Tryz.func35 rfl rfl rfl args_nil ?_
  intro a hF
  refine wp_seq ?_
  refine E.seq ?_
  obtain ⟨g0, w1, ge0, hr, bb, o0⟩ := own_alloc (P := Tryz.prog) (w := w) (cs := [.bool false, .slice none 0 0, .slice none 0 0]) 39 ze_RRat rfl (niB (niS (niS ni0)))
  replace ge0 : w.heap.size ≤ g0 := by rw [← ge0]; exact bel.size
  refine E.opv hF (r_alloc hr) rfl rfl rfl rfl fun a hF => ?_
  clear hr
  replace bel := below_to bel bb
  clear bb
  refine E.nil ?_
  refine wp_seq ?_
  refine E.seq ?_
  refine E.call hF (r_call Tryz.func47 en47.1 en47.2 (map2 ev_c ev_c)) (dOf_any (1577917828) (57265137) _ (by decide) (by decide) (by decide) (by decide)) rfl rfl rfl rfl ?_
  rintro e w2 ⟨vv3, rfl, hh4, bb⟩
  refine ⟨_, rfl, ?_⟩
  intro a hF
  replace o0 := o0.below bb
  replace bel := below_to bel bb
  clear bb
  obtain ⟨b5, ad5, n5, c5, ae5, m5, d5, z5, D5, rfl, hn5, hd5, hD5, hq5, lz5, lD5⟩ := Rr.shape hh4
  have ha5 := hn5.abs
  obtain ⟨w6, hr, tu, on⟩ := st_RRat (vs := [.bool b5, .slice ad5 n5 c5, .slice ae5 m5 d5]) o0 rfl rfl (ocB (ocS (ocS oc0))) (niB (niS (niS ni0))) (o := 0) rfl
  have kp := tu.keep o0
  refine E.st hF (r_store (hF.at 1 rfl) (hF.at 0 rfl) (hr _ rfl)) rfl rfl fun a hF => ?_
  clear hr
  replace hh4 := hh4.keep kp
  replace hn5 := hn5.keep kp
  replace ha5 := ha5.keep kp
  replace hd5 := hd5.keep kp
  replace bel := tu.below bel ge0
  clear tu kp
  replace o0 := on
  clear on
  refine E.nil ?_
  refine wp_ret ?_
  refine bodyPost_ret (res_cell Tryz.results35 (hF.at 1 rfl) (ld_RRat (vs := [.bool b5, .slice ad5 n5 c5, .slice ae5 m5 d5]) o0 rfl rfl)) hF.dfr ?_
  exact ⟨_, rfl, Rr.cast (Rr.up hh4 _ (by omega)) (by decide +kernel), bel⟩

set_option maxHeartbeats 4000000 in
theorem rCreation11_any (w : World) :
    Calls Tryz.prog 11 #[] w (RrPost w cre 12) := by
  have bel : Below w.heap.size w w := Below.refl _ _
  refine E.enter (nt := 6) (L := []) Tryz.func11 rfl rfl rfl args_nil ?_
  intro a hF
  refine wp_seq ?_
  refine E.seq ?_
  obtain ⟨g0, w1, ge0, hr, bb, o0⟩ := own_alloc (P := Tryz.prog) (w := w) (cs := [.bool false, .slice none 0 0, .slice none 0 0]) 39 ze_RRat rfl (niB (niS (niS ni0)))
  replace ge0 : w.heap.size ≤ g0 := by rw [← ge0]; exact bel.size
  refine E.opv hF (r_alloc hr) rfl rfl rfl rfl fun a hF => ?_
  clear hr
  replace bel := below_to bel bb
  clear bb
  refine E.nil ?_
  refine wp_seq ?_
  refine E.seq ?_
  refine E.call hF (r_call Tryz.func47 en47.1 en47.2 (map2 ev_c ev_c)) (dOf1b_any ((-1132959)) _ (by decide) (by decide)) rfl rfl rfl rfl ?_
  rintro e w2 ⟨vv3, rfl, hh4, bb⟩
  refine ⟨_, rfl, ?_⟩
  intro a hF
  replace o0 := o0.below bb
  replace bel := below_to bel bb
  clear bb
  obtain ⟨b5, ad5, n5, c5, ae5, m5, d5, z5, D5, rfl, hn5, hd5, hD5, hq5, lz5, lD5⟩ := Rr.shape hh4
  have ha5 := hn5.abs
  refine E.call hF (r_call Tryz.func47 en47.1 en47.2 (map2 ev_c ev_c)) (dOf1b_any (1955880000) _ (by decide) (by decide)) rfl rfl rfl rfl ?_
  rintro e w6 ⟨vv7, rfl, hh8, bb⟩
  refine ⟨_, rfl, ?_⟩
  intro a hF
  replace hh4 := hh4.below bb
  replace hn5 := hn5.below bb
  replace ha5 := ha5.below bb
  replace hd5 := hd5.below bb
  replace o0 := o0.below bb
  replace bel := below_to bel bb
  clear bb
  obtain ⟨b9, ad9, n9, c9, ae9, m9, d9, z9, D9, rfl, hn9, hd9, hD9, hq9, lz9, lD9⟩ := Rr.shape hh8
  have ha9 := hn9.abs
  refine E.call hF (r_call Tryz.func31 en31.1 en31.2 map0) (rYear11_any _) rfl rfl rfl rfl ?_
  rintro e w10 ⟨vv11, rfl, hh12, bb⟩
  refine ⟨_, rfl, ?_⟩
  intro a hF
  replace hh8 := hh8.below bb
  replace hn9 := hn9.below bb
  replace ha9 := ha9.below bb
  replace hd9 := hd9.below bb
  replace hh4 := hh4.below bb
  replace hn5 := hn5.below bb
  replace ha5 := ha5.below bb
  replace hd5 := hd5.below bb
  replace o0 := o0.below bb
  replace bel := below_to bel bb
  clear bb
  obtain ⟨b13, ad13, n13, c13, ae13, m13, d13, z13, D13, rfl, hn13, hd13, hD13, hq13, lz13, lD13⟩ := Rr.shape hh12
  have ha13 := hn13.abs
  refine E.call hF (r_call Tryz.func48 en48.1 en48.2 (map2 (hF.at 1 rfl) (hF.at 0 rfl))) (dMul2_any _ _ _ (pyr) 2 7 _ hh8 hh12 (by omega) (by omega) (by omega) (by omega)) rfl rfl rfl rfl ?_
  rintro e w14 ⟨vv15, rfl, hh16, bb⟩
  refine ⟨_, rfl, ?_⟩
  intro a hF
  replace hh4 := hh4.below bb
  replace hn5 := hn5.below bb
  replace ha5 := ha5.below bb
  replace hd5 := hd5.below bb
  replace o0 := o0.below bb
  replace bel := below_to bel bb
  clear bb
  obtain ⟨b17, ad17, n17, c17, ae17, m17, d17, z17, D17, rfl, hn17, hd17, hD17, hq17, lz17, lD17⟩ := Rr.shape hh16
  have ha17 := hn17.abs
  refine E.call hF (r_call Tryz.func46 en46.1 en46.2 (map2 (hF.at 3 rfl) (hF.at 0 rfl))) (dSub2_any _ _ _ _ 2 (2 + 7) _ hh4 hh16 (by omega) (by omega) (by omega) (by omega)) rfl rfl rfl rfl ?_
  rintro e w18 ⟨vv19, rfl, hh20, bb⟩
  refine ⟨_, rfl, ?_⟩
  intro a hF
  replace o0 := o0.below bb
  replace bel := below_to bel bb
  clear bb
  obtain ⟨b21, ad21, n21, c21, ae21, m21, d21, z21, D21, rfl, hn21, hd21, hD21, hq21, lz21, lD21⟩ := Rr.shape hh20
  have ha21 := hn21.abs
  obtain ⟨w22, hr, tu, on⟩ := st_RRat (vs := [.bool b21, .slice ad21 n21 c21, .slice ae21 m21 d21]) o0 rfl rfl (ocB (ocS (ocS oc0))) (niB (niS (niS ni0))) (o := 0) rfl
  have kp := tu.keep o0
  refine E.st hF (r_store (hF.at 5 rfl) (hF.at 0 rfl) (hr _ rfl)) rfl rfl fun a hF => ?_
  clear hr
  replace hh20 := hh20.keep kp
  replace hn21 := hn21.keep kp
  replace ha21 := ha21.keep kp
  replace hd21 := hd21.keep kp
  replace bel := tu.below bel ge0
  clear tu kp
  replace o0 := on
  clear on
  refine E.nil ?_
  refine wp_ret ?_
  refine bodyPost_ret (res_cell Tryz.results11 (hF.at 5 rfl) (ld_RRat (vs := [.bool b21, .slice ad21 n21 c21, .slice ae21 m21 d21]) o0 rfl rfl)) hF.dfr ?_
  exact ⟨_, rfl, Rr.cast (Rr.up hh20 _ (by omega)) (by decide +kernel), bel⟩

set_option maxHeartbeats 4000000 in
theorem rMof_any (v1 v2 : Value) (q1 q2 : Rat) (k j i l : Nat) (w : World) (h1 : Rr w v1 q1 k) (h2 : Rr w v2 q2 j) (li1 : RLim q1 i) (li2 : RLim q2 l) (hp : 1 ≤ k) (hp2 : 1 ≤ j) (hk : k ≤ 100) (hj : j ≤ 100) (hi : i ≤ 100) (hl : l ≤ 100) :
    Calls Tryz.prog 13 #[v1, v2] w (RrPost w (mof q1 q2) (k + j + i + l + 30)) := by
  obtain ⟨b1, ad1, n1, c1, ae1, m1, d1, z1, D1, rfl, hn1, hd1, hD1, hq1, lz1, lD1⟩ := h1.shape
  have h1 : Rr w (.agg #[.bool b1, .slice ad1 n1 c1, .slice ae1 m1 d1]) q1 k := ⟨_, _, _, _, _, _, _, _, _, rfl, hn1, hd1, hD1, hq1, lz1, lD1⟩
  have ha1 := hn1.abs
  have hb1 := hn1.neg
  replace hq1 := Lib.hid hq1
  obtain ⟨b2, ad2, n2, c2, ae2, m2, d2, z2, D2, rfl, hn2, hd2, hD2, hq2, lz2, lD2⟩ := h2.shape
  have h2 : Rr w (.agg #[.bool b2, .slice ad2 n2 c2, .slice ae2 m2 d2]) q2 j := ⟨_, _, _, _, _, _, _, _, _, rfl, hn2, hd2, hD2, hq2, lz2, lD2⟩
  have ha2 := hn2.abs
  have hb2 := hn2.neg
  replace hq2 := Lib.hid hq2
  by_cases h0 : sz (Rat.num (q2)) ≤ 0
  · have bel : Below w.heap.size w w := Below.refl _ _
    refine E.enter (nt := 22) (L := [(0, .agg #[.bool b1, .slice ad1 n1 c1, .slice ae1 m1 d1]), (1, .agg #[.bool b2, .slice ad2 n2 c2, .slice ae2 m2 d2])]) Tryz.func13 rfl rfl rfl (args_cons (i := 0) rfl (args_cons (i := 1) rfl args_nil)) ?_
    intro a hF
    refine wp_seq ?_
    refine E.seq ?_
    obtain ⟨g2, w1, ge2, hr, bb, o2⟩ := own_box (P := Tryz.prog) (w := w) (cs := [.bool b1, .slice ad1 n1 c1, .slice ae1 m1 d1]) (v := .agg #[.bool b1, .slice ad1 n1 c1, .slice ae1 m1 d1]) 39 rfl (niB (niS (niS ni0)))
    replace ge2 : w.heap.size ≤ g2 := by rw [← ge2]; exact bel.size
    refine E.opv hF (r_box (hF.at 0 rfl) hr) rfl rfl rfl rfl fun a hF => ?_
    clear hr
    replace bel := below_to bel bb
    clear bb
    obtain ⟨g3, w2, ge3, hr, bb, o3⟩ := own_box (P := Tryz.prog) (w := w1) (cs := [.bool b2, .slice ad2 n2 c2, .slice ae2 m2 d2]) (v := .agg #[.bool b2, .slice ad2 n2 c2, .slice ae2 m2 d2]) 39 rfl (niB (niS (niS ni0)))
    have ne2_3 : g2 ≠ g3 := by rw [← ge3]; exact o2.ne_new
    replace ge3 : w.heap.size ≤ g3 := by rw [← ge3]; exact bel.size
    refine E.opv hF (r_box (hF.at 2 rfl) hr) rfl rfl rfl rfl fun a hF => ?_
    clear hr
    replace o2 := o2.below bb
    replace bel := below_to bel bb
    clear bb
    obtain ⟨g4, w3, ge4, hr, bb, o4⟩ := own_alloc (P := Tryz.prog) (w := w2) (cs := [.bool false, .slice none 0 0, .slice none 0 0]) 39 ze_RRat rfl (niB (niS (niS ni0)))
    have ne2_4 : g2 ≠ g4 := by rw [← ge4]; exact o2.ne_new
    have ne3_4 : g3 ≠ g4 := by rw [← ge4]; exact o3.ne_new
    replace ge4 : w.heap.size ≤ g4 := by rw [← ge4]; exact bel.size
    refine E.opv hF (r_alloc hr) rfl rfl rfl rfl fun a hF => ?_
    clear hr
    replace o2 := o2.below bb
    replace o3 := o3.below bb
    replace bel := below_to bel bb
    clear bb
    refine E.nil ?_
    refine wp_seq ?_
    refine wp_seq ?_
    refine E.seq ?_
    refine E.opv hF (r_load (hF.at 1 rfl) (ld_RRat (vs := [.bool b2, .slice ad2 n2 c2, .slice ae2 m2 d2]) o3 rfl rfl)) rfl rfl rfl rfl fun a hF => ?_
    refine E.call hF (r_call Tryz.func51 en51.1 en51.2 (map1 (hF.at 0 rfl))) (dSgn_any _ (q2) j _ (h2.below bel)) rfl rfl rfl rfl ?_
    rintro e w4 ⟨rfl, bb⟩
    refine ⟨_, rfl, ?_⟩
    intro a hF
    replace o2 := o2.below bb
    replace o3 := o3.below bb
    replace o4 := o4.below bb
    replace bel := below_to bel bb
    clear bb
    refine E.opv hF (r_bin (hF.at 0 rfl) ev_c eg_scalar (bi_int (ic_leq (c := true) (dec_tt h0)) (by simp))) rfl rfl rfl rfl fun a hF => ?_
    refine E.nil ?_
    refine wp_cond_true (hF.at 0 rfl) ?_
    refine wp_seq ?_
    refine E.seq ?_
    refine E.call hF (r_call Tryz.func47 en47.1 en47.2 (map2 ev_c ev_c)) (dOf1b_any (0) _ (by decide) (by decide)) rfl rfl rfl rfl ?_
    rintro e w5 ⟨vv6, rfl, hh7, bb⟩
    refine ⟨_, rfl, ?_⟩
    intro a hF
    replace o2 := o2.below bb
    replace o3 := o3.below bb
    replace o4 := o4.below bb
    replace bel := below_to bel bb
    clear bb
    obtain ⟨b8, ad8, n8, c8, ae8, m8, d8, z8, D8, rfl, hn8, hd8, hD8, hq8, lz8, lD8⟩ := Rr.shape hh7
    have ha8 := hn8.abs
    obtain ⟨w9, hr, tu, on⟩ := st_RRat (vs := [.bool b8, .slice ad8 n8 c8, .slice ae8 m8 d8]) o4 rfl rfl (ocB (ocS (ocS oc0))) (niB (niS (niS ni0))) (o := 0) rfl
    have kp := tu.keep o4
    refine E.st hF (r_store (hF.at 4 rfl) (hF.at 0 rfl) (hr _ rfl)) rfl rfl fun a hF => ?_
    clear hr
    replace hh7 := hh7.keep kp
    replace hn8 := hn8.keep kp
    replace ha8 := ha8.keep kp
    replace hd8 := hd8.keep kp
    replace o2 := tu.own o2 ne2_4
    replace o3 := tu.own o3 ne3_4
    replace bel := tu.below bel ge4
    clear tu kp
    replace o4 := on
    clear on
    refine E.nil ?_
    refine wp_ret ?_
    refine bodyPost_ret (res_cell Tryz.results13 (hF.at 4 rfl) (ld_RRat (vs := [.bool b8, .slice ad8 n8 c8, .slice ae8 m8 d8]) o4 rfl rfl)) hF.dfr ?_
    exact ⟨_, rfl, Rr.cast (Rr.up hh7 _ (by omega)) (Rat.intCast_zero.trans (mof_no h0)), bel⟩
  · have bel : Below w.heap.size w w := Below.refl _ _
    refine E.enter (nt := 22) (L := [(0, .agg #[.bool b1, .slice ad1 n1 c1, .slice ae1 m1 d1]), (1, .agg #[.bool b2, .slice ad2 n2 c2, .slice ae2 m2 d2])]) Tryz.func13 rfl rfl rfl (args_cons (i := 0) rfl (args_cons (i := 1) rfl args_nil)) ?_
    intro a hF
    refine wp_seq ?_
    refine E.seq ?_
    obtain ⟨g2, w1, ge2, hr, bb, o2⟩ := own_box (P := Tryz.prog) (w := w) (cs := [.bool b1, .slice ad1 n1 c1, .slice ae1 m1 d1]) (v := .agg #[.bool b1, .slice ad1 n1 c1, .slice ae1 m1 d1]) 39 rfl (niB (niS (niS ni0)))
    replace ge2 : w.heap.size ≤ g2 := by rw [← ge2]; exact bel.size
    refine E.opv hF (r_box (hF.at 0 rfl) hr) rfl rfl rfl rfl fun a hF => ?_
    clear hr
    replace bel := below_to bel bb
    clear bb
    obtain ⟨g3, w2, ge3, hr, bb, o3⟩ := own_box (P := Tryz.prog) (w := w1) (cs := [.bool b2, .slice ad2 n2 c2, .slice ae2 m2 d2]) (v := .agg #[.bool b2, .slice ad2 n2 c2, .slice ae2 m2 d2]) 39 rfl (niB (niS (niS ni0)))
    have ne2_3 : g2 ≠ g3 := by rw [← ge3]; exact o2.ne_new
    replace ge3 : w.heap.size ≤ g3 := by rw [← ge3]; exact bel.size
    refine E.opv hF (r_box (hF.at 2 rfl) hr) rfl rfl rfl rfl fun a hF => ?_
    clear hr
    replace o2 := o2.below bb
    replace bel := below_to bel bb
    clear bb
    obtain ⟨g4, w3, ge4, hr, bb, o4⟩ := own_alloc (P := Tryz.prog) (w := w2) (cs := [.bool false, .slice none 0 0, .slice none 0 0]) 39 ze_RRat rfl (niB (niS (niS ni0)))
    have ne2_4 : g2 ≠ g4 := by rw [← ge4]; exact o2.ne_new
    have ne3_4 : g3 ≠ g4 := by rw [← ge4]; exact o3.ne_new
    replace ge4 : w.heap.size ≤ g4 := by rw [← ge4]; exact bel.size
    refine E.opv hF (r_alloc hr) rfl rfl rfl rfl fun a hF => ?_
    clear hr
    replace o2 := o2.below bb
    replace o3 := o3.below bb
    replace bel := below_to bel bb
    clear bb
    refine E.nil ?_
    refine wp_seq ?_
    refine wp_seq ?_
    refine E.seq ?_
    refine E.opv hF (r_load (hF.at 1 rfl) (ld_RRat (vs := [.bool b2, .slice ad2 n2 c2, .slice ae2 m2 d2]) o3 rfl rfl)) rfl rfl rfl rfl fun a hF => ?_
    refine E.call hF (r_call Tryz.func51 en51.1 en51.2 (map1 (hF.at 0 rfl))) (dSgn_any _ (q2) j _ (h2.below bel)) rfl rfl rfl rfl ?_
    rintro e w4 ⟨rfl, bb⟩
    refine ⟨_, rfl, ?_⟩
    intro a hF
    replace o2 := o2.below bb
    replace o3 := o3.below bb
    replace o4 := o4.below bb
    replace bel := below_to bel bb
    clear bb
    refine E.opv hF (r_bin (hF.at 0 rfl) ev_c eg_scalar (bi_int (ic_leq (c := false) (dec_ff h0)) (by simp))) rfl rfl rfl rfl fun a hF => ?_
    refine E.nil ?_
    refine wp_cond_false (hF.at 0 rfl) ?_
    refine wp_skip ?_
    refine E.norm ?_
    refine wp_seq ?_
    refine E.drawn 6 mixed hF [10, 11, 12, 13, 14, 5] [(fun _ v => v = .agg #[.bool b1, .slice ad1 n1 c1, .slice ae1 m1 d1]), (fun w v => Rr w v (cre) (12)), (fun w v => Rr w v ((q1) - (cre)) ((k + 12 + 1))), (fun _ v => v = .agg #[.bool b2, .slice ad2 n2 c2, .slice ae2 m2 d2]), (fun w v => Rr w v (((q1) - (cre)) / (q2)) (((k + 12 + 1) + j))), (fun w v => ∃ g, v = .pointer (some ⟨g, 0, none⟩) ∧ w4.heap.size ≤ g ∧ Own w g [.bool false, .slice none 0 0, .slice none 0 0])] [5] (by decide +kernel) (by decide +kernel) rfl rfl rfl ⟨(Mb.eq _), (fun _ _ _ h hb => h.below hb), (fun _ _ _ h hb => h.below hb), (Mb.eq _), (fun _ _ _ h hb => h.below hb), (fun _ _ _ ⟨g, e, l, o⟩ hb => ⟨g, e, l, o.below hb⟩), trivial⟩ ⟨fun _ _ ⟨g, e, _, o⟩ => ⟨g, e, o.lt⟩, trivial⟩ ⟨?_, ?_, ?_, ?_, ?_, ?_, trivial⟩ ?_
    · intro a' w' hF' hb hd
      exact dv0 (r_load (hF'.at 5 rfl) (ld_RRat (vs := [.bool b1, .slice ad1 n1 c1, .slice ae1 m1 d1]) (o2.below hb) rfl rfl)) rfl rfl rfl
    · intro a' w' hF' hb hd
      exact dc0 (r_call Tryz.func11 en11.1 en11.2 map0) (rCreation11_any _) rfl rfl
    · intro a' w' hF' hb hd
      have e10 := sHe hd 0 10 rfl rfl rfl rfl
      obtain ⟨v11_0, e11, h11_1⟩ := sH hd 1 11 rfl rfl rfl rfl
      exact dc0 (r_call Tryz.func46 en46.1 en46.2 (map2 e10 e11)) (dSub2_any _ _ (q1) (cre) k 12 _ (h1.below (below_to bel hb)) h11_1 (by omega) (by omega) (by omega) (by omega)) rfl rfl
    · intro a' w' hF' hb hd
      exact dv0 (r_load (hF'.at 4 rfl) (ld_RRat (vs := [.bool b2, .slice ad2 n2 c2, .slice ae2 m2 d2]) (o3.below hb) rfl rfl)) rfl rfl rfl
    · intro a' w' hF' hb hd
      obtain ⟨v12_0, e12, h12_1⟩ := sH hd 0 12 rfl rfl rfl rfl
      have e13 := sHe hd 1 13 rfl rfl rfl rfl
      exact dc0 (r_call Tryz.func52 en52.1 en52.2 (map2 e12 e13)) (dDiv2_any _ _ _ (q2) (k + 12 + 1) j _ h12_1 (h2.below (below_to bel hb)) (by omega) (by omega) (by omega) (by omega)) rfl rfl
    · intro a' w' hF' hb hd
      obtain ⟨g, w2, ge, hr, bb, on⟩ := own_alloc (P := Tryz.prog) (w := w') (cs := [.bool false, .slice none 0 0, .slice none 0 0]) 39 ze_RRat rfl (niB (niS (niS ni0)))
      subst ge
      exact if_does (wanted_free rfl) (Does.vals (r_alloc hr) ⟨⟨_, rfl, hb.size, on⟩, bb, fun _ => rfl⟩)
    intro a w5 hF bb hall hne
    obtain ⟨vv6, e14, hh7⟩ := sS hall 4 14 rfl rfl
    obtain ⟨g5, e5, ge5, o5⟩ : ∃ g, a.tmps.getD 5 undef = .pointer (some ⟨g, 0, none⟩) ∧ w4.heap.size ≤ g ∧ Own w5 g [.bool false, .slice none 0 0, .slice none 0 0] := hall 5 5 rfl
    have ne4_5 : g4 ≠ g5 := Nat.ne_of_lt (Nat.lt_of_lt_of_le o4.lt ge5)
    replace ge5 : w.heap.size ≤ g5 := Nat.le_trans bel.size ge5
    clear hall hne
    replace o4 := o4.below bb
    replace bel := below_to bel bb
    clear bb
    obtain ⟨b8, ad8, n8, c8, ae8, m8, d8, z8, D8, rfl, hn8, hd8, hD8, hq8, lz8, lD8⟩ := Rr.shape hh7
    have ha8 := hn8.abs
    replace hF := hF.add e14
    clear e14
    replace hF := hF.add e5
    clear e5
    obtain ⟨w9, hr, tu, on⟩ := st_RRat (vs := [.bool b8, .slice ad8 n8 c8, .slice ae8 m8 d8]) o5 rfl rfl (ocB (ocS (ocS oc0))) (niB (niS (niS ni0))) (o := 0) rfl
    have kp := tu.keep o5
    refine E.st hF (r_store (hF.at 0 rfl) (hF.at 1 rfl) (hr _ rfl)) rfl rfl fun a hF => ?_
    clear hr
    replace hh7 := hh7.keep kp
    replace hn8 := hn8.keep kp
    replace ha8 := ha8.keep kp
    replace hd8 := hd8.keep kp
    replace o4 := tu.own o4 ne4_5
    replace bel := tu.below bel ge5
    clear tu kp
    replace o5 := on
    clear on
    refine E.nil ?_
    refine wp_seq ?_
    refine E.drawn 7 mixed hF [15, 16, 17, 18, 19, 20, 21] [(fun _ v => v = .agg #[.bool b8, .slice ad8 n8 c8, .slice ae8 m8 d8]), (fun _ v => v = .agg #[.bool b8, .slice ad8 n8 c8, .slice ae8 m8 d8]), (fun w v => Rz w v (Rat.floor (((q1) - (cre)) / (q2)))), (fun w v => Rr w v (((Rat.floor (((q1) - (cre)) / (q2)) : Int) : Rat)) (((((i + 2 + 1) + l) + 1) + 1))), (fun w v => Rr w v ((((q1) - (cre)) / (q2)) - (((Rat.floor (((q1) - (cre)) / (q2)) : Int) : Rat))) ((((k + 12 + 1) + j) + ((((i + 2 + 1) + l) + 1) + 1) + 1))), (fun w v => Rr w v (((360 : Int) : Rat)) (2)), (fun w v => Rr w v (((((q1) - (cre)) / (q2)) - (((Rat.floor (((q1) - (cre)) / (q2)) : Int) : Rat))) * (((360 : Int) : Rat))) (((((k + 12 + 1) + j) + ((((i + 2 + 1) + l) + 1) + 1) + 1) + 2)))] [] (by decide +kernel) (by decide +kernel) rfl rfl rfl ⟨(Mb.eq _), (Mb.eq _), (fun _ _ _ h hb => h.below hb), (fun _ _ _ h hb => h.below hb), (fun _ _ _ h hb => h.below hb), (fun _ _ _ h hb => h.below hb), (fun _ _ _ h hb => h.below hb), trivial⟩ trivial ⟨?_, ?_, ?_, ?_, ?_, ?_, ?_, trivial⟩ ?_
    · intro a' w' hF' hb hd
      exact dv0 (r_load (hF'.at 0 rfl) (ld_RRat (vs := [.bool b8, .slice ad8 n8 c8, .slice ae8 m8 d8]) (o5.below hb) rfl rfl)) rfl rfl rfl
    · intro a' w' hF' hb hd
      exact dv0 (r_load (hF'.at 0 rfl) (ld_RRat (vs := [.bool b8, .slice ad8 n8 c8, .slice ae8 m8 d8]) (o5.below hb) rfl rfl)) rfl rfl rfl
    · intro a' w' hF' hb hd
      have e16 := sHe hd 0 16 rfl rfl rfl rfl
      exact dc0 (r_call Tryz.func54 en54.1 en54.2 (map1 e16)) (dFloor_any _ _ ((k + 12 + 1) + j) _ (hh7.below hb) (by omega) (by omega)) rfl rfl
    · intro a' w' hF' hb hd
      obtain ⟨v17_0, e17, h17_1⟩ := sH hd 0 17 rfl rfl rfl rfl
      exact dc0 (r_call Tryz.func53 en53.1 en53.2 (map1 e17)) (dWhole_any _ (Rat.floor (((q1) - (cre)) / (q2))) ((((i + 2 + 1) + l) + 1) + 1) _ h17_1 (Lim.up (fl_lim (rlim_div (rlim_sub li1 cre_lim) li2)) _ (by omega)) (by omega)) rfl rfl
    · intro a' w' hF' hb hd
      have e15 := sHe hd 0 15 rfl rfl rfl rfl
      obtain ⟨v18_0, e18, h18_1⟩ := sH hd 1 18 rfl rfl rfl rfl
      exact dc0 (r_call Tryz.func46 en46.1 en46.2 (map2 e15 e18)) (dSub2_any _ _ _ (((Rat.floor _ : Int) : Rat)) ((k + 12 + 1) + j) ((((i + 2 + 1) + l) + 1) + 1) _ (hh7.below hb) h18_1 (by omega) (by omega) (by omega) (by omega)) rfl rfl
    · intro a' w' hF' hb hd
      exact dc0 (r_call Tryz.func47 en47.1 en47.2 (map2 ev_c ev_c)) (dOf1b_any (360) _ (by decide) (by decide)) rfl rfl
    · intro a' w' hF' hb hd
      obtain ⟨v19_0, e19, h19_1⟩ := sH hd 0 19 rfl rfl rfl rfl
      obtain ⟨v20_0, e20, h20_1⟩ := sH hd 1 20 rfl rfl rfl rfl
      exact dc0 (r_call Tryz.func48 en48.1 en48.2 (map2 e19 e20)) (dMul2_any _ _ _ _ (((k + 12 + 1) + j) + ((((i + 2 + 1) + l) + 1) + 1) + 1) 2 _ h19_1 h20_1 (by omega) (by omega) (by omega) (by omega)) rfl rfl
    intro a w10 hF bb hall hne
    obtain ⟨vv11, e21, hh12⟩ := sS hall 6 21 rfl rfl
    clear hall hne
    replace o4 := o4.below bb
    replace bel := below_to bel bb
    clear bb
    obtain ⟨b13, ad13, n13, c13, ae13, m13, d13, z13, D13, rfl, hn13, hd13, hD13, hq13, lz13, lD13⟩ := Rr.shape hh12
    have ha13 := hn13.abs
    replace hF := hF.add e21
    clear e21
    obtain ⟨w14, hr, tu, on⟩ := st_RRat (vs := [.bool b13, .slice ad13 n13 c13, .slice ae13 m13 d13]) o4 rfl rfl (ocB (ocS (ocS oc0))) (niB (niS (niS ni0))) (o := 0) rfl
    have kp := tu.keep o4
    refine E.st hF (r_store (hF.at 6 rfl) (hF.at 0 rfl) (hr _ rfl)) rfl rfl fun a hF => ?_
    clear hr
    replace hh12 := hh12.keep kp
    replace hn13 := hn13.keep kp
    replace ha13 := ha13.keep kp
    replace hd13 := hd13.keep kp
    replace bel := tu.below bel ge4
    clear tu kp
    replace o4 := on
    clear on
    refine E.nil ?_
    refine wp_ret ?_
    refine bodyPost_ret (res_cell Tryz.results13 (hF.at 6 rfl) (ld_RRat (vs := [.bool b13, .slice ad13 n13 c13, .slice ae13 m13 d13]) o4 rfl rfl)) hF.dfr ?_
    exact ⟨_, rfl, Rr.cast (Rr.up hh12 _ (by omega)) (mof_yes h0), bel⟩

set_option maxHeartbeats 1000000 in
theorem rPer11_any (n : Int) (w : World) :
    Calls Tryz.prog 8 #[.int .i64 n] w (RrPost w (per n) 7) := by
  have bel : Below w.heap.size w w := Below.refl _ _
  refine E.enter (nt := 17) (L := [(0, .int .i64 n)]) Tryz.func8 rfl rfl rfl (args_cons (i := 0) rfl args_nil) ?_
  intro a hF
  refine wp_seq ?_
  refine E.seq ?_
  obtain ⟨g2, w1, ge2, hr, bb, o2⟩ := own_alloc (P := Tryz.prog) (w := w) (cs := [.bool false, .slice none 0 0, .slice none 0 0]) 39 ze_RRat rfl (niB (niS (niS ni0)))
  replace ge2 : w.heap.size ≤ g2 := by rw [← ge2]; exact bel.size
  refine E.opv hF (r_alloc hr) rfl rfl rfl rfl fun a hF => ?_
  clear hr
  replace bel := below_to bel bb
  clear bb
  refine E.nil ?_
  refine wp_seq ?_
  refine wp_seq ?_
  refine E.seq ?_
  refine E.opv hF (r_move (hF.at 1 rfl)) rfl rfl rfl rfl fun a hF => ?_
  refine E.nil ?_
  refine wp_block ?_
  refine wp_seq ?_
  refine E.seq ?_
  by_cases hc2 : n = 1
  · refine E.opv hF (r_bin (hF.at 0 rfl) ev_c eg_scalar (bi_int (ic_eql (c := true) (dec_tt hc2)) (by simp))) rfl rfl rfl rfl fun a hF => ?_
    refine E.opv hF (r_assign (hF.at 0 rfl)) rfl rfl rfl rfl fun a hF => ?_
    refine E.nil ?_
    refine wp_cond_true (hF.at 0 rfl) ?_
    refine wp_seq ?_
    refine E.seq ?_
    refine E.call hF (r_call Tryz.func31 en31.1 en31.2 map0) (rYear11_any _) rfl rfl rfl rfl ?_
    rintro e w3 ⟨vv4, rfl, hh5, bb⟩
    refine ⟨_, rfl, ?_⟩
    intro a hF
    replace o2 := o2.below bb
    replace bel := below_to bel bb
    clear bb
    obtain ⟨b6, ad6, n6, c6, ae6, m6, d6, z6, D6, rfl, hn6, hd6, hD6, hq6, lz6, lD6⟩ := Rr.shape hh5
    have ha6 := hn6.abs
    obtain ⟨w7, hr, tu, on⟩ := st_RRat (vs := [.bool b6, .slice ad6 n6 c6, .slice ae6 m6 d6]) o2 rfl rfl (ocB (ocS (ocS oc0))) (niB (niS (niS ni0))) (o := 0) rfl
    have kp := tu.keep o2
    refine E.st hF (r_store (hF.at 4 rfl) (hF.at 0 rfl) (hr _ rfl)) rfl rfl fun a hF => ?_
    clear hr
    replace hh5 := hh5.keep kp
    replace hn6 := hn6.keep kp
    replace ha6 := ha6.keep kp
    replace hd6 := hd6.keep kp
    replace bel := tu.below bel ge2
    clear tu kp
    replace o2 := on
    clear on
    refine E.nil ?_
    refine wp_ret ?_
    refine bodyPost_ret (res_cell Tryz.results8 (hF.at 4 rfl) (ld_RRat (vs := [.bool b6, .slice ad6 n6 c6, .slice ae6 m6 d6]) o2 rfl rfl)) hF.dfr ?_
    exact ⟨_, rfl, Rr.cast hh5 (by unfold per; rw [if_pos hc2]), bel⟩
  · refine E.opv hF (r_bin (hF.at 0 rfl) ev_c eg_scalar (bi_int (ic_eql (c := false) (dec_ff hc2)) (by simp))) rfl rfl rfl rfl fun a hF => ?_
    refine E.opv hF (r_assign (hF.at 0 rfl)) rfl rfl rfl rfl fun a hF => ?_
    refine E.nil ?_
    refine wp_cond_false (hF.at 0 rfl) ?_
    refine wp_seq ?_
    refine E.seq ?_
    by_cases hc8 : n = 2
    · refine E.opv hF (r_bin (hF.at 2 rfl) ev_c eg_scalar (bi_int (ic_eql (c := true) (dec_tt hc8)) (by simp))) rfl rfl rfl rfl fun a hF => ?_
      refine E.opv hF (r_assign (hF.at 0 rfl)) rfl rfl rfl rfl fun a hF => ?_
      refine E.nil ?_
      refine wp_cond_true (hF.at 0 rfl) ?_
      refine wp_seq ?_
      refine E.seq ?_
      refine E.call hF (r_call Tryz.func32 en32.1 en32.2 map0) (rMonth11_any _) rfl rfl rfl rfl ?_
      rintro e w9 ⟨vv10, rfl, hh11, bb⟩
      refine ⟨_, rfl, ?_⟩
      intro a hF
      replace o2 := o2.below bb
      replace bel := below_to bel bb
      clear bb
      obtain ⟨b12, ad12, n12, c12, ae12, m12, d12, z12, D12, rfl, hn12, hd12, hD12, hq12, lz12, lD12⟩ := Rr.shape hh11
      have ha12 := hn12.abs
      obtain ⟨w13, hr, tu, on⟩ := st_RRat (vs := [.bool b12, .slice ad12 n12 c12, .slice ae12 m12 d12]) o2 rfl rfl (ocB (ocS (ocS oc0))) (niB (niS (niS ni0))) (o := 0) rfl
      have kp := tu.keep o2
      refine E.st hF (r_store (hF.at 6 rfl) (hF.at 0 rfl) (hr _ rfl)) rfl rfl fun a hF => ?_
      clear hr
      replace hh11 := hh11.keep kp
      replace hn12 := hn12.keep kp
      replace ha12 := ha12.keep kp
      replace hd12 := hd12.keep kp
      replace bel := tu.below bel ge2
      clear tu kp
      replace o2 := on
      clear on
      refine E.nil ?_
      refine wp_ret ?_
      refine bodyPost_ret (res_cell Tryz.results8 (hF.at 6 rfl) (ld_RRat (vs := [.bool b12, .slice ad12 n12 c12, .slice ae12 m12 d12]) o2 rfl rfl)) hF.dfr ?_
      exact ⟨_, rfl, Rr.cast hh11 (by unfold per; rw [if_neg hc2, if_pos hc8]), bel⟩
    · refine E.opv hF (r_bin (hF.at 2 rfl) ev_c eg_scalar (bi_int (ic_eql (c := false) (dec_ff hc8)) (by simp))) rfl rfl rfl rfl fun a hF => ?_
      refine E.opv hF (r_assign (hF.at 0 rfl)) rfl rfl rfl rfl fun a hF => ?_
      refine E.nil ?_
      refine wp_cond_false (hF.at 0 rfl) ?_
      refine wp_seq ?_
      refine E.seq ?_
      by_cases hc14 : n = 3
      · refine E.opv hF (r_bin (hF.at 4 rfl) ev_c eg_scalar (bi_int (ic_eql (c := true) (dec_tt hc14)) (by simp))) rfl rfl rfl rfl fun a hF => ?_
        refine E.opv hF (r_assign (hF.at 0 rfl)) rfl rfl rfl rfl fun a hF => ?_
        refine E.nil ?_
        refine wp_cond_true (hF.at 0 rfl) ?_
        refine wp_seq ?_
        refine E.seq ?_
        refine E.call hF (r_call Tryz.func33 en33.1 en33.2 map0) (rSynodic11_any _) rfl rfl rfl rfl ?_
        rintro e w15 ⟨vv16, rfl, hh17, bb⟩
        refine ⟨_, rfl, ?_⟩
        intro a hF
        replace o2 := o2.below bb
        replace bel := below_to bel bb
        clear bb
        obtain ⟨b18, ad18, n18, c18, ae18, m18, d18, z18, D18, rfl, hn18, hd18, hD18, hq18, lz18, lD18⟩ := Rr.shape hh17
        have ha18 := hn18.abs
        obtain ⟨w19, hr, tu, on⟩ := st_RRat (vs := [.bool b18, .slice ad18 n18 c18, .slice ae18 m18 d18]) o2 rfl rfl (ocB (ocS (ocS oc0))) (niB (niS (niS ni0))) (o := 0) rfl
        have kp := tu.keep o2
        refine E.st hF (r_store (hF.at 8 rfl) (hF.at 0 rfl) (hr _ rfl)) rfl rfl fun a hF => ?_
        clear hr
        replace hh17 := hh17.keep kp
        replace hn18 := hn18.keep kp
        replace ha18 := ha18.keep kp
        replace hd18 := hd18.keep kp
        replace bel := tu.below bel ge2
        clear tu kp
        replace o2 := on
        clear on
        refine E.nil ?_
        refine wp_ret ?_
        refine bodyPost_ret (res_cell Tryz.results8 (hF.at 8 rfl) (ld_RRat (vs := [.bool b18, .slice ad18 n18 c18, .slice ae18 m18 d18]) o2 rfl rfl)) hF.dfr ?_
        exact ⟨_, rfl, Rr.cast hh17 (by unfold per; rw [if_neg hc2, if_neg hc8, if_pos hc14]), bel⟩
      · refine E.opv hF (r_bin (hF.at 4 rfl) ev_c eg_scalar (bi_int (ic_eql (c := false) (dec_ff hc14)) (by simp))) rfl rfl rfl rfl fun a hF => ?_
        refine E.opv hF (r_assign (hF.at 0 rfl)) rfl rfl rfl rfl fun a hF => ?_
        refine E.nil ?_
        refine wp_cond_false (hF.at 0 rfl) ?_
        refine wp_seq ?_
        refine E.seq ?_
        by_cases hc20 : n = 4
        · refine E.opv hF (r_bin (hF.at 6 rfl) ev_c eg_scalar (bi_int (ic_eql (c := true) (dec_tt hc20)) (by simp))) rfl rfl rfl rfl fun a hF => ?_
          refine E.opv hF (r_assign (hF.at 0 rfl)) rfl rfl rfl rfl fun a hF => ?_
          refine E.nil ?_
          refine wp_cond_true (hF.at 0 rfl) ?_
          refine wp_seq ?_
          refine E.seq ?_
          refine E.call hF (r_call Tryz.func34 en34.1 en34.2 map0) (rAnomalyYear11_any _) rfl rfl rfl rfl ?_
          rintro e w21 ⟨vv22, rfl, hh23, bb⟩
          refine ⟨_, rfl, ?_⟩
          intro a hF
          replace o2 := o2.below bb
          replace bel := below_to bel bb
          clear bb
          obtain ⟨b24, ad24, n24, c24, ae24, m24, d24, z24, D24, rfl, hn24, hd24, hD24, hq24, lz24, lD24⟩ := Rr.shape hh23
          have ha24 := hn24.abs
          obtain ⟨w25, hr, tu, on⟩ := st_RRat (vs := [.bool b24, .slice ad24 n24 c24, .slice ae24 m24 d24]) o2 rfl rfl (ocB (ocS (ocS oc0))) (niB (niS (niS ni0))) (o := 0) rfl
          have kp := tu.keep o2
          refine E.st hF (r_store (hF.at 10 rfl) (hF.at 0 rfl) (hr _ rfl)) rfl rfl fun a hF => ?_
          clear hr
          replace hh23 := hh23.keep kp
          replace hn24 := hn24.keep kp
          replace ha24 := ha24.keep kp
          replace hd24 := hd24.keep kp
          replace bel := tu.below bel ge2
          clear tu kp
          replace o2 := on
          clear on
          refine E.nil ?_
          refine wp_ret ?_
          refine bodyPost_ret (res_cell Tryz.results8 (hF.at 10 rfl) (ld_RRat (vs := [.bool b24, .slice ad24 n24 c24, .slice ae24 m24 d24]) o2 rfl rfl)) hF.dfr ?_
          exact ⟨_, rfl, Rr.cast hh23 (by unfold per; rw [if_neg hc2, if_neg hc8, if_neg hc14, if_pos hc20]), bel⟩
        · refine E.opv hF (r_bin (hF.at 6 rfl) ev_c eg_scalar (bi_int (ic_eql (c := false) (dec_ff hc20)) (by simp))) rfl rfl rfl rfl fun a hF => ?_
          refine E.opv hF (r_assign (hF.at 0 rfl)) rfl rfl rfl rfl fun a hF => ?_
          refine E.nil ?_
          refine wp_cond_false (hF.at 0 rfl) ?_
          refine wp_skip ?_
          refine E.blk ?_
          refine E.norm ?_
          refine wp_seq ?_
          refine E.seq ?_
          refine E.call hF (r_call Tryz.func35 en35.1 en35.2 map0) (rAnomalyMonth11_any _) rfl rfl rfl rfl ?_
          rintro e w26 ⟨vv27, rfl, hh28, bb⟩
          refine ⟨_, rfl, ?_⟩
          intro a hF
          replace o2 := o2.below bb
          replace bel := below_to bel bb
          clear bb
          obtain ⟨b29, ad29, n29, c29, ae29, m29, d29, z29, D29, rfl, hn29, hd29, hD29, hq29, lz29, lD29⟩ := Rr.shape hh28
          have ha29 := hn29.abs
          obtain ⟨w30, hr, tu, on⟩ := st_RRat (vs := [.bool b29, .slice ad29 n29 c29, .slice ae29 m29 d29]) o2 rfl rfl (ocB (ocS (ocS oc0))) (niB (niS (niS ni0))) (o := 0) rfl
          have kp := tu.keep o2
          refine E.st hF (r_store (hF.at 10 rfl) (hF.at 0 rfl) (hr _ rfl)) rfl rfl fun a hF => ?_
          clear hr
          replace hh28 := hh28.keep kp
          replace hn29 := hn29.keep kp
          replace ha29 := ha29.keep kp
          replace hd29 := hd29.keep kp
          replace bel := tu.below bel ge2
          clear tu kp
          replace o2 := on
          clear on
          refine E.nil ?_
          refine wp_ret ?_
          refine bodyPost_ret (res_cell Tryz.results8 (hF.at 10 rfl) (ld_RRat (vs := [.bool b29, .slice ad29 n29 c29, .slice ae29 m29 d29]) o2 rfl rfl)) hF.dfr ?_
          exact ⟨_, rfl, Rr.cast hh28 (by unfold per; rw [if_neg hc2, if_neg hc8, if_neg hc14, if_neg hc20]), bel⟩

end Go.Proofs.YtmpdbkdijfpbbaaGreat
