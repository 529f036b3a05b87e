/- mean: its functions. -/
import Derived.Test.YtmpdbkdijfpbbaaGreatMnW
import Derived.Test.YtmpdbkdijfpbbaaGreatGY
import Derived.Test.YtmpdbkdijfpbbaaGreatSh
namespace Go.Proofs.YtmpdbkdijfpbbaaGreat
open Go.RowKit
set_option maxRecDepth 100000
set_option linter.unusedVariables false

theorem en16 : (Tryz.f16.name == "runtime.NumGoroutine") = false ∧ Tryz.f16.body.isNone = false := ⟨by decide +kernel, by kernel_rfl⟩
theorem en18 : (Tryz.f18.name == "runtime.NumGoroutine") = false ∧ Tryz.f18.body.isNone = false := ⟨by decide +kernel, by kernel_rfl⟩
theorem en28 : (Tryz.f28.name == "runtime.NumGoroutine") = false ∧ Tryz.f28.body.isNone = false := ⟨by decide +kernel, by kernel_rfl⟩
theorem en29 : (Tryz.f29.name == "runtime.NumGoroutine") = false ∧ Tryz.f29.body.isNone = false := ⟨by decide +kernel, by kernel_rfl⟩
theorem en30 : (Tryz.f30.name == "runtime.NumGoroutine") = false ∧ Tryz.f30.body.isNone = false := ⟨by decide +kernel, by kernel_rfl⟩
theorem en10 : (Tryz.f10.name == "runtime.NumGoroutine") = false ∧ Tryz.f10.body.isNone = false := ⟨by decide +kernel, by kernel_rfl⟩
theorem en50 : (Tryz.f50.name == "runtime.NumGoroutine") = false ∧ Tryz.f50.body.isNone = false := ⟨by decide +kernel, by kernel_rfl⟩
theorem en12 : (Tryz.f12.name == "runtime.NumGoroutine") = false ∧ Tryz.f12.body.isNone = false := ⟨by decide +kernel, by kernel_rfl⟩
theorem en14 : (Tryz.f14.name == "runtime.NumGoroutine") = false ∧ Tryz.f14.body.isNone = false := ⟨by decide +kernel, by kernel_rfl⟩
theorem en17 : (Tryz.f17.name == "runtime.NumGoroutine") = false ∧ Tryz.f17.body.isNone = false := ⟨by decide +kernel, by kernel_rfl⟩
theorem en4 : (Tryz.f4.name == "runtime.NumGoroutine") = false ∧ Tryz.f4.body.isNone = false := ⟨by decide +kernel, by kernel_rfl⟩
theorem en7 : (Tryz.f7.name == "runtime.NumGoroutine") = false ∧ Tryz.f7.body.isNone = false := ⟨by decide +kernel, by kernel_rfl⟩
set_option maxHeartbeats 1000000 in
theorem mYear_any (w : World) :
    Calls Tryz.prog 16 #[] w (RqPost w pyr) := by
  have bel : Below w.heap.size w w := Below.refl _ _
  refine E.enter (nt := 2) (L := []) Tryz.func16 rfl rfl rfl args_nil ?_
  intro a hF
  refine wp_seq ?_
  refine E.seq ?_
  obtain ⟨g0, w1, ge0, hr, bb, o0⟩ := own_alloc (P := Tryz.prog) (w := w) (cs := [.bool false, .slice none 0 0, .slice none 0 0]) 32 ze_Rat rfl (niB (niS (niS ni0)))
  replace ge0 : w.heap.size ≤ g0 := by rw [← ge0]; exact bel.size
  refine E.opv hF (r_alloc hr) rfl rfl rfl rfl fun a hF => ?_
  clear hr
  replace bel := below_to bel bb
  clear bb
  refine E.nil ?_
  refine wp_seq ?_
  refine E.seq ?_
  refine E.call hF (r_call Tryz.func19 en19.1 en19.2 (map2 ev_c ev_c)) (rOf2_any (1577917828000) (4320000000) _ (by decide) (by decide) (by decide) (by decide)) rfl rfl rfl rfl ?_
  rintro e w2 ⟨vv3, rfl, hh4, bb⟩
  refine ⟨_, rfl, ?_⟩
  intro a hF
  replace o0 := o0.below bb
  replace bel := below_to bel bb
  clear bb
  obtain ⟨b5, ad5, n5, c5, ae5, m5, d5, rfl, hn5, hd5⟩ := Rq.shape hh4
  have hf6 := Wc.abs hn5
  obtain ⟨w7, hr, tu, on⟩ := st_Rat (vs := [.bool b5, .slice ad5 n5 c5, .slice ae5 m5 d5]) o0 rfl rfl (ocB (ocS (ocS oc0))) (niB (niS (niS ni0))) (o := 0) rfl
  have kp := tu.keep o0
  refine E.st hF (r_store (hF.at 1 rfl) (hF.at 0 rfl) (hr _ rfl)) rfl rfl fun a hF => ?_
  clear hr
  replace hh4 := hh4.keep kp
  replace hn5 := hn5.keep kp
  replace hf6 := hf6.keep kp
  replace hd5 := hd5.keep kp
  replace bel := tu.below bel ge0
  clear tu kp
  replace o0 := on
  clear on
  refine E.nil ?_
  refine wp_ret ?_
  refine bodyPost_ret (res_cell Tryz.results16 (hF.at 1 rfl) (ld_Rat (vs := [.bool b5, .slice ad5 n5 c5, .slice ae5 m5 d5]) o0 rfl rfl)) hF.dfr ?_
  exact ⟨_, rfl, hh4, bel⟩

set_option maxHeartbeats 1000000 in
theorem mMonth_any (w : World) :
    Calls Tryz.prog 18 #[] w (RqPost w pmo) := by
  have bel : Below w.heap.size w w := Below.refl _ _
  refine E.enter (nt := 2) (L := []) Tryz.func18 rfl rfl rfl args_nil ?_
  intro a hF
  refine wp_seq ?_
  refine E.seq ?_
  obtain ⟨g0, w1, ge0, hr, bb, o0⟩ := own_alloc (P := Tryz.prog) (w := w) (cs := [.bool false, .slice none 0 0, .slice none 0 0]) 32 ze_Rat rfl (niB (niS (niS ni0)))
  replace ge0 : w.heap.size ≤ g0 := by rw [← ge0]; exact bel.size
  refine E.opv hF (r_alloc hr) rfl rfl rfl rfl fun a hF => ?_
  clear hr
  replace bel := below_to bel bb
  clear bb
  refine E.nil ?_
  refine wp_seq ?_
  refine E.seq ?_
  refine E.call hF (r_call Tryz.func19 en19.1 en19.2 (map2 ev_c ev_c)) (rOf2_any (1577917828) (57753336) _ (by decide) (by decide) (by decide) (by decide)) rfl rfl rfl rfl ?_
  rintro e w2 ⟨vv3, rfl, hh4, bb⟩
  refine ⟨_, rfl, ?_⟩
  intro a hF
  replace o0 := o0.below bb
  replace bel := below_to bel bb
  clear bb
  obtain ⟨b5, ad5, n5, c5, ae5, m5, d5, rfl, hn5, hd5⟩ := Rq.shape hh4
  have hf6 := Wc.abs hn5
  obtain ⟨w7, hr, tu, on⟩ := st_Rat (vs := [.bool b5, .slice ad5 n5 c5, .slice ae5 m5 d5]) o0 rfl rfl (ocB (ocS (ocS oc0))) (niB (niS (niS ni0))) (o := 0) rfl
  have kp := tu.keep o0
  refine E.st hF (r_store (hF.at 1 rfl) (hF.at 0 rfl) (hr _ rfl)) rfl rfl fun a hF => ?_
  clear hr
  replace hh4 := hh4.keep kp
  replace hn5 := hn5.keep kp
  replace hf6 := hf6.keep kp
  replace hd5 := hd5.keep kp
  replace bel := tu.below bel ge0
  clear tu kp
  replace o0 := on
  clear on
  refine E.nil ?_
  refine wp_ret ?_
  refine bodyPost_ret (res_cell Tryz.results18 (hF.at 1 rfl) (ld_Rat (vs := [.bool b5, .slice ad5 n5 c5, .slice ae5 m5 d5]) o0 rfl rfl)) hF.dfr ?_
  exact ⟨_, rfl, hh4, bel⟩

set_option maxHeartbeats 1000000 in
theorem mSynodic_any (w : World) :
    Calls Tryz.prog 28 #[] w (RqPost w psy) := by
  have bel : Below w.heap.size w w := Below.refl _ _
  refine E.enter (nt := 2) (L := []) Tryz.func28 rfl rfl rfl args_nil ?_
  intro a hF
  refine wp_seq ?_
  refine E.seq ?_
  obtain ⟨g0, w1, ge0, hr, bb, o0⟩ := own_alloc (P := Tryz.prog) (w := w) (cs := [.bool false, .slice none 0 0, .slice none 0 0]) 32 ze_Rat rfl (niB (niS (niS ni0)))
  replace ge0 : w.heap.size ≤ g0 := by rw [← ge0]; exact bel.size
  refine E.opv hF (r_alloc hr) rfl rfl rfl rfl fun a hF => ?_
  clear hr
  replace bel := below_to bel bb
  clear bb
  refine E.nil ?_
  refine wp_seq ?_
  refine E.seq ?_
  refine E.call hF (r_call Tryz.func19 en19.1 en19.2 (map2 ev_c ev_c)) (rOf2_any (1577917828) (53433336) _ (by decide) (by decide) (by decide) (by decide)) rfl rfl rfl rfl ?_
  rintro e w2 ⟨vv3, rfl, hh4, bb⟩
  refine ⟨_, rfl, ?_⟩
  intro a hF
  replace o0 := o0.below bb
  replace bel := below_to bel bb
  clear bb
  obtain ⟨b5, ad5, n5, c5, ae5, m5, d5, rfl, hn5, hd5⟩ := Rq.shape hh4
  have hf6 := Wc.abs hn5
  obtain ⟨w7, hr, tu, on⟩ := st_Rat (vs := [.bool b5, .slice ad5 n5 c5, .slice ae5 m5 d5]) o0 rfl rfl (ocB (ocS (ocS oc0))) (niB (niS (niS ni0))) (o := 0) rfl
  have kp := tu.keep o0
  refine E.st hF (r_store (hF.at 1 rfl) (hF.at 0 rfl) (hr _ rfl)) rfl rfl fun a hF => ?_
  clear hr
  replace hh4 := hh4.keep kp
  replace hn5 := hn5.keep kp
  replace hf6 := hf6.keep kp
  replace hd5 := hd5.keep kp
  replace bel := tu.below bel ge0
  clear tu kp
  replace o0 := on
  clear on
  refine E.nil ?_
  refine wp_ret ?_
  refine bodyPost_ret (res_cell Tryz.results28 (hF.at 1 rfl) (ld_Rat (vs := [.bool b5, .slice ad5 n5 c5, .slice ae5 m5 d5]) o0 rfl rfl)) hF.dfr ?_
  exact ⟨_, rfl, hh4, bel⟩

set_option maxHeartbeats 1000000 in
theorem mAnomalyYear_any (w : World) :
    Calls Tryz.prog 29 #[] w (RqPost w pay) := by
  have bel : Below w.heap.size w w := Below.refl _ _
  refine E.enter (nt := 2) (L := []) Tryz.func29 rfl rfl rfl args_nil ?_
  intro a hF
  refine wp_seq ?_
  refine E.seq ?_
  obtain ⟨g0, w1, ge0, hr, bb, o0⟩ := own_alloc (P := Tryz.prog) (w := w) (cs := [.bool false, .slice none 0 0, .slice none 0 0]) 32 ze_Rat rfl (niB (niS (niS ni0)))
  replace ge0 : w.heap.size ≤ g0 := by rw [← ge0]; exact bel.size
  refine E.opv hF (r_alloc hr) rfl rfl rfl rfl fun a hF => ?_
  clear hr
  replace bel := below_to bel bb
  clear bb
  refine E.nil ?_
  refine wp_seq ?_
  refine E.seq ?_
  refine E.call hF (r_call Tryz.func19 en19.1 en19.2 (map2 ev_c ev_c)) (rOf2_any (1577917828000) (4319999613) _ (by decide) (by decide) (by decide) (by decide)) rfl rfl rfl rfl ?_
  rintro e w2 ⟨vv3, rfl, hh4, bb⟩
  refine ⟨_, rfl, ?_⟩
  intro a hF
  replace o0 := o0.below bb
  replace bel := below_to bel bb
  clear bb
  obtain ⟨b5, ad5, n5, c5, ae5, m5, d5, rfl, hn5, hd5⟩ := Rq.shape hh4
  have hf6 := Wc.abs hn5
  obtain ⟨w7, hr, tu, on⟩ := st_Rat (vs := [.bool b5, .slice ad5 n5 c5, .slice ae5 m5 d5]) o0 rfl rfl (ocB (ocS (ocS oc0))) (niB (niS (niS ni0))) (o := 0) rfl
  have kp := tu.keep o0
  refine E.st hF (r_store (hF.at 1 rfl) (hF.at 0 rfl) (hr _ rfl)) rfl rfl fun a hF => ?_
  clear hr
  replace hh4 := hh4.keep kp
  replace hn5 := hn5.keep kp
  replace hf6 := hf6.keep kp
  replace hd5 := hd5.keep kp
  replace bel := tu.below bel ge0
  clear tu kp
  replace o0 := on
  clear on
  refine E.nil ?_
  refine wp_ret ?_
  refine bodyPost_ret (res_cell Tryz.results29 (hF.at 1 rfl) (ld_Rat (vs := [.bool b5, .slice ad5 n5 c5, .slice ae5 m5 d5]) o0 rfl rfl)) hF.dfr ?_
  exact ⟨_, rfl, hh4, bel⟩

set_option maxHeartbeats 1000000 in
theorem mAnomalyMonth_any (w : World) :
    Calls Tryz.prog 30 #[] w (RqPost w pam) := by
  have bel : Below w.heap.size w w := Below.refl _ _
  refine E.enter (nt := 2) (L := []) Tryz.func30 rfl rfl rfl args_nil ?_
  intro a hF
  refine wp_seq ?_
  refine E.seq ?_
  obtain ⟨g0, w1, ge0, hr, bb, o0⟩ := own_alloc (P := Tryz.prog) (w := w) (cs := [.bool false, .slice none 0 0, .slice none 0 0]) 32 ze_Rat rfl (niB (niS (niS ni0)))
  replace ge0 : w.heap.size ≤ g0 := by rw [← ge0]; exact bel.size
  refine E.opv hF (r_alloc hr) rfl rfl rfl rfl fun a hF => ?_
  clear hr
  replace bel := below_to bel bb
  clear bb
  refine E.nil ?_
  refine wp_seq ?_
  refine E.seq ?_
  refine E.call hF (r_call Tryz.func19 en19.1 en19.2 (map2 ev_c ev_c)) (rOf2_any (1577917828) (57265137) _ (by decide) (by decide) (by decide) (by decide)) rfl rfl rfl rfl ?_
  rintro e w2 ⟨vv3, rfl, hh4, bb⟩
  refine ⟨_, rfl, ?_⟩
  intro a hF
  replace o0 := o0.below bb
  replace bel := below_to bel bb
  clear bb
  obtain ⟨b5, ad5, n5, c5, ae5, m5, d5, rfl, hn5, hd5⟩ := Rq.shape hh4
  have hf6 := Wc.abs hn5
  obtain ⟨w7, hr, tu, on⟩ := st_Rat (vs := [.bool b5, .slice ad5 n5 c5, .slice ae5 m5 d5]) o0 rfl rfl (ocB (ocS (ocS oc0))) (niB (niS (niS ni0))) (o := 0) rfl
  have kp := tu.keep o0
  refine E.st hF (r_store (hF.at 1 rfl) (hF.at 0 rfl) (hr _ rfl)) rfl rfl fun a hF => ?_
  clear hr
  replace hh4 := hh4.keep kp
  replace hn5 := hn5.keep kp
  replace hf6 := hf6.keep kp
  replace hd5 := hd5.keep kp
  replace bel := tu.below bel ge0
  clear tu kp
  replace o0 := on
  clear on
  refine E.nil ?_
  refine wp_ret ?_
  refine bodyPost_ret (res_cell Tryz.results30 (hF.at 1 rfl) (ld_Rat (vs := [.bool b5, .slice ad5 n5 c5, .slice ae5 m5 d5]) o0 rfl rfl)) hF.dfr ?_
  exact ⟨_, rfl, hh4, bel⟩

set_option maxHeartbeats 1000000 in
theorem mCreation_any (w : World) :
    Calls Tryz.prog 10 #[] w (RqPost w cre) := by
  have bel : Below w.heap.size w w := Below.refl _ _
  refine E.enter (nt := 2) (L := []) Tryz.func10 rfl rfl rfl args_nil ?_
  intro a hF
  refine wp_seq ?_
  refine E.seq ?_
  obtain ⟨g0, w1, ge0, hr, bb, o0⟩ := own_alloc (P := Tryz.prog) (w := w) (cs := [.bool false, .slice none 0 0, .slice none 0 0]) 32 ze_Rat rfl (niB (niS (niS ni0)))
  replace ge0 : w.heap.size ≤ g0 := by rw [← ge0]; exact bel.size
  refine E.opv hF (r_alloc hr) rfl rfl rfl rfl fun a hF => ?_
  clear hr
  replace bel := below_to bel bb
  clear bb
  refine E.nil ?_
  refine wp_seq ?_
  refine E.seq ?_
  refine E.call hF (r_call Tryz.func23 en23.1 en23.2 (map1 ev_c)) (rWhole_any ((-714403429586)) _ (by decide) (by decide)) rfl rfl rfl rfl ?_
  rintro e w2 ⟨vv3, rfl, hh4, bb⟩
  refine ⟨_, rfl, ?_⟩
  intro a hF
  replace o0 := o0.below bb
  replace bel := below_to bel bb
  clear bb
  obtain ⟨b5, ad5, n5, c5, ae5, m5, d5, rfl, hn5, hd5⟩ := Rq.shape hh4
  have hf6 := Wc.abs hn5
  obtain ⟨w7, hr, tu, on⟩ := st_Rat (vs := [.bool b5, .slice ad5 n5 c5, .slice ae5 m5 d5]) o0 rfl rfl (ocB (ocS (ocS oc0))) (niB (niS (niS ni0))) (o := 0) rfl
  have kp := tu.keep o0
  refine E.st hF (r_store (hF.at 1 rfl) (hF.at 0 rfl) (hr _ rfl)) rfl rfl fun a hF => ?_
  clear hr
  replace hh4 := hh4.keep kp
  replace hn5 := hn5.keep kp
  replace hf6 := hf6.keep kp
  replace hd5 := hd5.keep kp
  replace bel := tu.below bel ge0
  clear tu kp
  replace o0 := on
  clear on
  refine E.nil ?_
  refine wp_ret ?_
  refine bodyPost_ret (res_cell Tryz.results10 (hF.at 1 rfl) (ld_Rat (vs := [.bool b5, .slice ad5 n5 c5, .slice ae5 m5 d5]) o0 rfl rfl)) hF.dfr ?_
  exact ⟨_, rfl, hh4, bel⟩

set_option maxHeartbeats 1000000 in
theorem mTurns_any (v1 v2 : Value) (qt qp : Rat) (k j : Nat) (w : World) (h1 : Rq w v1 qt) (h2 : Rq w v2 qp) (hl : RLim qt k) (hm : RLim qp j) (hk : k ≤ 400) (hj : j ≤ 400) :
    Calls Tryz.prog 50 #[v1, v2] w (RqPost w (mturn qt qp)) := by
  have bel : Below w.heap.size w w := Below.refl _ _
  refine E.enter (nt := 10) (L := [(0, v1), (1, v2)]) Tryz.func50 rfl rfl rfl (args_cons (i := 0) rfl (args_cons (i := 1) rfl args_nil)) ?_
  intro a hF
  refine wp_seq ?_
  refine E.seq ?_
  obtain ⟨b1, ad1, n1, c1, ae1, m1, d1, rfl, hn1, hd1⟩ := Rq.shape h1
  have hf2 := Wc.abs hn1
  obtain ⟨g2, w3, ge2, hr, bb, o2⟩ := own_box (P := Tryz.prog) (w := w) (cs := [.bool b1, .slice ad1 n1 c1, .slice ae1 m1 d1]) (v := .agg #[.bool b1, .slice ad1 n1 c1, .slice ae1 m1 d1]) 32 rfl (niB (niS (niS ni0)))
  replace ge2 : w.heap.size ≤ g2 := by rw [← ge2]; exact bel.size
  refine E.opv hF (r_box (hF.at 0 rfl) hr) rfl rfl rfl rfl fun a hF => ?_
  clear hr
  replace bel := below_to bel bb
  clear bb
  obtain ⟨b4, ad4, n4, c4, ae4, m4, d4, rfl, hn4, hd4⟩ := Rq.shape h2
  have hf5 := Wc.abs hn4
  obtain ⟨g3, w6, ge3, hr, bb, o3⟩ := own_box (P := Tryz.prog) (w := w3) (cs := [.bool b4, .slice ad4 n4 c4, .slice ae4 m4 d4]) (v := .agg #[.bool b4, .slice ad4 n4 c4, .slice ae4 m4 d4]) 32 rfl (niB (niS (niS ni0)))
  have ne2_3 : g2 ≠ g3 := by rw [← ge3]; exact o2.ne_new
  replace ge3 : w.heap.size ≤ g3 := by rw [← ge3]; exact bel.size
  refine E.opv hF (r_box (hF.at 2 rfl) hr) rfl rfl rfl rfl fun a hF => ?_
  clear hr
  replace o2 := o2.below bb
  replace bel := below_to bel bb
  clear bb
  obtain ⟨g4, w7, ge4, hr, bb, o4⟩ := own_alloc (P := Tryz.prog) (w := w6) (cs := [.bool false, .slice none 0 0, .slice none 0 0]) 32 ze_Rat rfl (niB (niS (niS ni0)))
  have ne2_4 : g2 ≠ g4 := by rw [← ge4]; exact o2.ne_new
  have ne3_4 : g3 ≠ g4 := by rw [← ge4]; exact o3.ne_new
  replace ge4 : w.heap.size ≤ g4 := by rw [← ge4]; exact bel.size
  refine E.opv hF (r_alloc hr) rfl rfl rfl rfl fun a hF => ?_
  clear hr
  replace o2 := o2.below bb
  replace o3 := o3.below bb
  replace bel := below_to bel bb
  clear bb
  refine E.nil ?_
  refine wp_seq ?_
  refine E.drawn 5 mixed hF [5, 6, 7, 8, 9] [(fun _ v => v = .agg #[.bool b1, .slice ad1 n1 c1, .slice ae1 m1 d1]), (fun w v => Rq w v (cre)), (fun w v => Rq w v ((qt) - (cre))), (fun _ v => v = .agg #[.bool b4, .slice ad4 n4 c4, .slice ae4 m4 d4]), (fun w v => Rq w v (((qt) - (cre)) / (qp)))] [] (by decide +kernel) (by decide +kernel) rfl rfl rfl ⟨(Mb.eq _), (fun _ _ _ h hb => h.below hb), (fun _ _ _ h hb => h.below hb), (Mb.eq _), (fun _ _ _ h hb => h.below hb), trivial⟩ trivial ⟨?_, ?_, ?_, ?_, ?_, trivial⟩ ?_
  · intro a' w' hF' hb hd
    exact dv0 (r_load (hF'.at 2 rfl) (ld_Rat (vs := [.bool b1, .slice ad1 n1 c1, .slice ae1 m1 d1]) (o2.below hb) rfl rfl)) rfl rfl rfl
  · intro a' w' hF' hb hd
    exact dc0 (r_call Tryz.func10 en10.1 en10.2 map0) (mCreation_any _) rfl rfl
  · intro a' w' hF' hb hd
    have e5 := sHe hd 0 5 rfl rfl rfl rfl
    obtain ⟨v6_0, e6, h6_1⟩ := sH hd 1 6 rfl rfl rfl rfl
    exact dc0 (r_call Tryz.func81 en81.1 en81.2 (map2 e5 e6)) (rSub_any _ _ (qt) (cre) (max k 2) _ (h1.below (below_to bel hb)) h6_1 (hl.up _ (by omega)) (cre_lim.up _ (by omega)) (by omega)) rfl rfl
  · intro a' w' hF' hb hd
    exact dv0 (r_load (hF'.at 1 rfl) (ld_Rat (vs := [.bool b4, .slice ad4 n4 c4, .slice ae4 m4 d4]) (o3.below hb) rfl rfl)) rfl rfl rfl
  · intro a' w' hF' hb hd
    obtain ⟨v7_0, e7, h7_1⟩ := sH hd 0 7 rfl rfl rfl rfl
    have e8 := sHe hd 1 8 rfl rfl rfl rfl
    exact dc0 (r_call Tryz.func84 en84.1 en84.2 (map2 e7 e8)) (rDiv_any _ _ _ (qp) (max (k + 2 + 1) j) _ h7_1 (h2.below (below_to bel hb)) ((rlim_sub hl cre_lim).up _ (by omega)) (hm.up _ (by omega)) (by omega)) rfl rfl
  intro a w8 hF bb hall hne
  obtain ⟨vv9, e9, hh10⟩ := sS hall 4 9 rfl rfl
  clear hall hne
  replace o4 := o4.below bb
  replace bel := below_to bel bb
  clear bb
  obtain ⟨b11, ad11, n11, c11, ae11, m11, d11, rfl, hn11, hd11⟩ := Rq.shape hh10
  have hf12 := Wc.abs hn11
  replace hF := hF.add e9
  clear e9
  obtain ⟨w13, hr, tu, on⟩ := st_Rat (vs := [.bool b11, .slice ad11 n11 c11, .slice ae11 m11 d11]) o4 rfl rfl (ocB (ocS (ocS oc0))) (niB (niS (niS ni0))) (o := 0) rfl
  have kp := tu.keep o4
  refine E.st hF (r_store (hF.at 1 rfl) (hF.at 0 rfl) (hr _ rfl)) rfl rfl fun a hF => ?_
  clear hr
  replace hh10 := hh10.keep kp
  replace hn11 := hn11.keep kp
  replace hf12 := hf12.keep kp
  replace hd11 := hd11.keep kp
  replace bel := tu.below bel ge4
  clear tu kp
  replace o4 := on
  clear on
  refine E.nil ?_
  refine wp_ret ?_
  refine bodyPost_ret (res_cell Tryz.results50 (hF.at 1 rfl) (ld_Rat (vs := [.bool b11, .slice ad11 n11 c11, .slice ae11 m11 d11]) o4 rfl rfl)) hF.dfr ?_
  exact ⟨_, rfl, hh10, bel⟩

theorem mof_no {t p : Rat} (h : sz p.num ≤ 0) : (0 : Rat) = mof t p := by unfold mof; rw [if_pos (sz_le0.1 h)]
theorem mof_yes {t p : Rat} (h : ¬ sz p.num ≤ 0) : (mturn t p - (((mturn t p).floor : Int) : Rat)) * ((360 : Int) : Rat) = mof t p := by unfold mof mfr; rw [if_neg (fun e => h (sz_le0.2 e))]
set_option maxHeartbeats 1000000 in
theorem mOf_any (v1 v2 : Value) (qt qp : Rat) (k j : Nat) (w : World) (h1 : Rq w v1 qt) (h2 : Rq w v2 qp) (hl : RLim qt k) (hm : RLim qp j) (hk : k ≤ 400) (hj : j ≤ 400) :
    Calls Tryz.prog 12 #[v1, v2] w (RqPost w (mof qt qp)) := by
  by_cases h0 : sz (Rat.num (qp)) ≤ 0
  · have bel : Below w.heap.size w w := Below.refl _ _
    refine E.enter (nt := 15) (L := [(0, v1), (1, v2)]) Tryz.func12 rfl rfl rfl (args_cons (i := 0) rfl (args_cons (i := 1) rfl args_nil)) ?_
    intro a hF
    refine wp_seq ?_
    refine E.seq ?_
    obtain ⟨b1, ad1, n1, c1, ae1, m1, d1, rfl, hn1, hd1⟩ := Rq.shape h1
    have hf2 := Wc.abs hn1
    obtain ⟨g2, w3, ge2, hr, bb, o2⟩ := own_box (P := Tryz.prog) (w := w) (cs := [.bool b1, .slice ad1 n1 c1, .slice ae1 m1 d1]) (v := .agg #[.bool b1, .slice ad1 n1 c1, .slice ae1 m1 d1]) 32 rfl (niB (niS (niS ni0)))
    replace ge2 : w.heap.size ≤ g2 := by rw [← ge2]; exact bel.size
    refine E.opv hF (r_box (hF.at 0 rfl) hr) rfl rfl rfl rfl fun a hF => ?_
    clear hr
    replace bel := below_to bel bb
    clear bb
    obtain ⟨b4, ad4, n4, c4, ae4, m4, d4, rfl, hn4, hd4⟩ := Rq.shape h2
    have hf5 := Wc.abs hn4
    obtain ⟨g3, w6, ge3, hr, bb, o3⟩ := own_box (P := Tryz.prog) (w := w3) (cs := [.bool b4, .slice ad4 n4 c4, .slice ae4 m4 d4]) (v := .agg #[.bool b4, .slice ad4 n4 c4, .slice ae4 m4 d4]) 32 rfl (niB (niS (niS ni0)))
    have ne2_3 : g2 ≠ g3 := by rw [← ge3]; exact o2.ne_new
    replace ge3 : w.heap.size ≤ g3 := by rw [← ge3]; exact bel.size
    refine E.opv hF (r_box (hF.at 2 rfl) hr) rfl rfl rfl rfl fun a hF => ?_
    clear hr
    replace o2 := o2.below bb
    replace bel := below_to bel bb
    clear bb
    obtain ⟨g4, w7, ge4, hr, bb, o4⟩ := own_alloc (P := Tryz.prog) (w := w6) (cs := [.bool false, .slice none 0 0, .slice none 0 0]) 32 ze_Rat rfl (niB (niS (niS ni0)))
    have ne2_4 : g2 ≠ g4 := by rw [← ge4]; exact o2.ne_new
    have ne3_4 : g3 ≠ g4 := by rw [← ge4]; exact o3.ne_new
    replace ge4 : w.heap.size ≤ g4 := by rw [← ge4]; exact bel.size
    refine E.opv hF (r_alloc hr) rfl rfl rfl rfl fun a hF => ?_
    clear hr
    replace o2 := o2.below bb
    replace o3 := o3.below bb
    replace bel := below_to bel bb
    clear bb
    refine E.nil ?_
    refine wp_seq ?_
    refine wp_seq ?_
    refine E.seq ?_
    refine E.opv hF (r_load (hF.at 1 rfl) (ld_Rat (vs := [.bool b4, .slice ad4 n4 c4, .slice ae4 m4 d4]) o3 rfl rfl)) rfl rfl rfl rfl fun a hF => ?_
    refine E.call hF (r_call Tryz.func20 en20.1 en20.2 (map1 (hF.at 0 rfl))) (rsgn_any _ (qp) _ (h2.below bel)) rfl rfl rfl rfl ?_
    rintro e w8 ⟨rfl, bb⟩
    refine ⟨_, rfl, ?_⟩
    intro a hF
    replace o2 := o2.below bb
    replace o3 := o3.below bb
    replace o4 := o4.below bb
    replace bel := below_to bel bb
    clear bb
    refine E.opv hF (r_bin (hF.at 0 rfl) ev_c eg_scalar (bi_int (ic_leq (c := true) (dec_tt h0)) (by simp))) rfl rfl rfl rfl fun a hF => ?_
    refine E.nil ?_
    refine wp_cond_true (hF.at 0 rfl) ?_
    refine wp_seq ?_
    refine E.seq ?_
    refine E.opv hF (r_build (by simp) (bd_Rat_ _)) rfl rfl rfl rfl fun a hF => ?_
    obtain ⟨w9, hr, tu, on⟩ := st_Rat (vs := [.bool false, .slice none 0 0, .slice none 0 0]) o4 rfl rfl (ocB (ocS (ocS oc0))) (niB (niS (niS ni0))) (o := 0) rfl
    have kp := tu.keep o4
    refine E.st hF (r_store (hF.at 4 rfl) (hF.at 0 rfl) (hr _ rfl)) rfl rfl fun a hF => ?_
    clear hr
    replace o2 := tu.own o2 ne2_4
    replace o3 := tu.own o3 ne3_4
    replace bel := tu.below bel ge4
    clear tu kp
    replace o4 := on
    clear on
    refine E.nil ?_
    refine wp_ret ?_
    refine bodyPost_ret (res_cell Tryz.results12 (hF.at 4 rfl) (ld_Rat (vs := [.bool false, .slice none 0 0, .slice none 0 0]) o4 rfl rfl)) hF.dfr ?_
    exact ⟨_, rfl, Rq.castM (Rq.zero _) (mof_no h0), bel⟩
  · have bel : Below w.heap.size w w := Below.refl _ _
    refine E.enter (nt := 15) (L := [(0, v1), (1, v2)]) Tryz.func12 rfl rfl rfl (args_cons (i := 0) rfl (args_cons (i := 1) rfl args_nil)) ?_
    intro a hF
    refine wp_seq ?_
    refine E.seq ?_
    obtain ⟨b1, ad1, n1, c1, ae1, m1, d1, rfl, hn1, hd1⟩ := Rq.shape h1
    have hf2 := Wc.abs hn1
    obtain ⟨g2, w3, ge2, hr, bb, o2⟩ := own_box (P := Tryz.prog) (w := w) (cs := [.bool b1, .slice ad1 n1 c1, .slice ae1 m1 d1]) (v := .agg #[.bool b1, .slice ad1 n1 c1, .slice ae1 m1 d1]) 32 rfl (niB (niS (niS ni0)))
    replace ge2 : w.heap.size ≤ g2 := by rw [← ge2]; exact bel.size
    refine E.opv hF (r_box (hF.at 0 rfl) hr) rfl rfl rfl rfl fun a hF => ?_
    clear hr
    replace bel := below_to bel bb
    clear bb
    obtain ⟨b4, ad4, n4, c4, ae4, m4, d4, rfl, hn4, hd4⟩ := Rq.shape h2
    have hf5 := Wc.abs hn4
    obtain ⟨g3, w6, ge3, hr, bb, o3⟩ := own_box (P := Tryz.prog) (w := w3) (cs := [.bool b4, .slice ad4 n4 c4, .slice ae4 m4 d4]) (v := .agg #[.bool b4, .slice ad4 n4 c4, .slice ae4 m4 d4]) 32 rfl (niB (niS (niS ni0)))
    have ne2_3 : g2 ≠ g3 := by rw [← ge3]; exact o2.ne_new
    replace ge3 : w.heap.size ≤ g3 := by rw [← ge3]; exact bel.size
    refine E.opv hF (r_box (hF.at 2 rfl) hr) rfl rfl rfl rfl fun a hF => ?_
    clear hr
    replace o2 := o2.below bb
    replace bel := below_to bel bb
    clear bb
    obtain ⟨g4, w7, ge4, hr, bb, o4⟩ := own_alloc (P := Tryz.prog) (w := w6) (cs := [.bool false, .slice none 0 0, .slice none 0 0]) 32 ze_Rat rfl (niB (niS (niS ni0)))
    have ne2_4 : g2 ≠ g4 := by rw [← ge4]; exact o2.ne_new
    have ne3_4 : g3 ≠ g4 := by rw [← ge4]; exact o3.ne_new
    replace ge4 : w.heap.size ≤ g4 := by rw [← ge4]; exact bel.size
    refine E.opv hF (r_alloc hr) rfl rfl rfl rfl fun a hF => ?_
    clear hr
    replace o2 := o2.below bb
    replace o3 := o3.below bb
    replace bel := below_to bel bb
    clear bb
    refine E.nil ?_
    refine wp_seq ?_
    refine wp_seq ?_
    refine E.seq ?_
    refine E.opv hF (r_load (hF.at 1 rfl) (ld_Rat (vs := [.bool b4, .slice ad4 n4 c4, .slice ae4 m4 d4]) o3 rfl rfl)) rfl rfl rfl rfl fun a hF => ?_
    refine E.call hF (r_call Tryz.func20 en20.1 en20.2 (map1 (hF.at 0 rfl))) (rsgn_any _ (qp) _ (h2.below bel)) rfl rfl rfl rfl ?_
    rintro e w8 ⟨rfl, bb⟩
    refine ⟨_, rfl, ?_⟩
    intro a hF
    replace o2 := o2.below bb
    replace o3 := o3.below bb
    replace o4 := o4.below bb
    replace bel := below_to bel bb
    clear bb
    refine E.opv hF (r_bin (hF.at 0 rfl) ev_c eg_scalar (bi_int (ic_leq (c := false) (dec_ff h0)) (by simp))) rfl rfl rfl rfl fun a hF => ?_
    refine E.nil ?_
    refine wp_cond_false (hF.at 0 rfl) ?_
    refine wp_skip ?_
    refine E.norm ?_
    refine wp_seq ?_
    refine E.seq ?_
    refine E.opv hF (r_load (hF.at 5 rfl) (ld_Rat (vs := [.bool b1, .slice ad1 n1 c1, .slice ae1 m1 d1]) o2 rfl rfl)) rfl rfl rfl rfl fun a hF => ?_
    refine E.opv hF (r_load (hF.at 5 rfl) (ld_Rat (vs := [.bool b4, .slice ad4 n4 c4, .slice ae4 m4 d4]) o3 rfl rfl)) rfl rfl rfl rfl fun a hF => ?_
    refine E.call hF (r_call Tryz.func50 en50.1 en50.2 (map2 (hF.at 1 rfl) (hF.at 0 rfl))) (mTurns_any _ _ (qt) (qp) k j _ (h1.below bel) (h2.below bel) hl hm (by omega) (by omega)) rfl rfl rfl rfl ?_
    rintro e w9 ⟨vv10, rfl, hh11, bb⟩
    refine ⟨_, rfl, ?_⟩
    intro a hF
    replace o4 := o4.below bb
    replace bel := below_to bel bb
    clear bb
    obtain ⟨b12, ad12, n12, c12, ae12, m12, d12, rfl, hn12, hd12⟩ := Rq.shape hh11
    have hf13 := Wc.abs hn12
    refine E.call hF (r_call Tryz.func49 en49.1 en49.2 (map1 (hF.at 0 rfl))) (cFrac_any _ _ (k + j + 3) _ hh11 (mturn_lim hl hm) (by omega)) rfl rfl rfl rfl ?_
    rintro e w14 ⟨vv15, rfl, hh16, bb⟩
    refine ⟨_, rfl, ?_⟩
    intro a hF
    replace o4 := o4.below bb
    replace bel := below_to bel bb
    clear bb
    obtain ⟨b17, ad17, n17, c17, ae17, m17, d17, rfl, hn17, hd17⟩ := Rq.shape hh16
    have hf18 := Wc.abs hn17
    refine E.call hF (r_call Tryz.func23 en23.1 en23.2 (map1 ev_c)) (rWhole_any (360) _ (by decide) (by decide)) rfl rfl rfl rfl ?_
    rintro e w19 ⟨vv20, rfl, hh21, bb⟩
    refine ⟨_, rfl, ?_⟩
    intro a hF
    replace hh16 := hh16.below bb
    replace hn17 := hn17.below bb
    replace hf18 := hf18.below bb
    replace hd17 := hd17.below bb
    replace o4 := o4.below bb
    replace bel := below_to bel bb
    clear bb
    obtain ⟨b22, ad22, n22, c22, ae22, m22, d22, rfl, hn22, hd22⟩ := Rq.shape hh21
    have hf23 := Wc.abs hn22
    refine E.call hF (r_call Tryz.func22 en22.1 en22.2 (map2 (hF.at 1 rfl) (hF.at 0 rfl))) (rMul_any _ _ _ _ (max (k + j + 3) 2) _ hh16 hh21 ((mfr_lim (mturn_lim hl hm)).up _ (by omega)) ((rlim_int (limz_64 (by decide) (by decide)) (by omega)).up _ (by omega)) (by omega)) rfl rfl rfl rfl ?_
    rintro e w24 ⟨vv25, rfl, hh26, bb⟩
    refine ⟨_, rfl, ?_⟩
    intro a hF
    replace o4 := o4.below bb
    replace bel := below_to bel bb
    clear bb
    obtain ⟨b27, ad27, n27, c27, ae27, m27, d27, rfl, hn27, hd27⟩ := Rq.shape hh26
    have hf28 := Wc.abs hn27
    obtain ⟨w29, hr, tu, on⟩ := st_Rat (vs := [.bool b27, .slice ad27 n27 c27, .slice ae27 m27 d27]) o4 rfl rfl (ocB (ocS (ocS oc0))) (niB (niS (niS ni0))) (o := 0) rfl
    have kp := tu.keep o4
    refine E.st hF (r_store (hF.at 9 rfl) (hF.at 0 rfl) (hr _ rfl)) rfl rfl fun a hF => ?_
    clear hr
    replace hh26 := hh26.keep kp
    replace hn27 := hn27.keep kp
    replace hf28 := hf28.keep kp
    replace hd27 := hd27.keep kp
    replace bel := tu.below bel ge4
    clear tu kp
    replace o4 := on
    clear on
    refine E.nil ?_
    refine wp_ret ?_
    refine bodyPost_ret (res_cell Tryz.results12 (hF.at 9 rfl) (ld_Rat (vs := [.bool b27, .slice ad27 n27 c27, .slice ae27 m27 d27]) o4 rfl rfl)) hF.dfr ?_
    exact ⟨_, rfl, Rq.castM hh26 (mof_yes h0), bel⟩

set_option maxHeartbeats 1000000 in
theorem mSun_any (v1 : Value) (qt : Rat) (k : Nat) (w : World) (h1 : Rq w v1 qt) (hl : RLim qt k) (hk : k ≤ 400) :
    Calls Tryz.prog 14 #[v1] w (RqPost w (mof qt pyr)) := by
  have bel : Below w.heap.size w w := Below.refl _ _
  refine E.enter (nt := 6) (L := [(0, v1)]) Tryz.func14 rfl rfl rfl (args_cons (i := 0) rfl args_nil) ?_
  intro a hF
  refine wp_seq ?_
  refine E.seq ?_
  obtain ⟨b1, ad1, n1, c1, ae1, m1, d1, rfl, hn1, hd1⟩ := Rq.shape h1
  have hf2 := Wc.abs hn1
  obtain ⟨g1, w3, ge1, hr, bb, o1⟩ := own_box (P := Tryz.prog) (w := w) (cs := [.bool b1, .slice ad1 n1 c1, .slice ae1 m1 d1]) (v := .agg #[.bool b1, .slice ad1 n1 c1, .slice ae1 m1 d1]) 32 rfl (niB (niS (niS ni0)))
  replace ge1 : w.heap.size ≤ g1 := by rw [← ge1]; exact bel.size
  refine E.opv hF (r_box (hF.at 0 rfl) hr) rfl rfl rfl rfl fun a hF => ?_
  clear hr
  replace bel := below_to bel bb
  clear bb
  obtain ⟨g2, w4, ge2, hr, bb, o2⟩ := own_alloc (P := Tryz.prog) (w := w3) (cs := [.bool false, .slice none 0 0, .slice none 0 0]) 32 ze_Rat rfl (niB (niS (niS ni0)))
  have ne1_2 : g1 ≠ g2 := by rw [← ge2]; exact o1.ne_new
  replace ge2 : w.heap.size ≤ g2 := by rw [← ge2]; exact bel.size
  refine E.opv hF (r_alloc hr) rfl rfl rfl rfl fun a hF => ?_
  clear hr
  replace o1 := o1.below bb
  replace bel := below_to bel bb
  clear bb
  refine E.nil ?_
  refine wp_seq ?_
  refine E.drawn 3 mixed hF [3, 4, 5] [(fun _ v => v = .agg #[.bool b1, .slice ad1 n1 c1, .slice ae1 m1 d1]), (fun w v => Rq w v (pyr)), (fun w v => Rq w v (mof (qt) (pyr)))] [] (by decide +kernel) (by decide +kernel) rfl rfl rfl ⟨(Mb.eq _), (fun _ _ _ h hb => h.below hb), (fun _ _ _ h hb => h.below hb), trivial⟩ trivial ⟨?_, ?_, ?_, trivial⟩ ?_
  · intro a' w' hF' hb hd
    exact dv0 (r_load (hF'.at 1 rfl) (ld_Rat (vs := [.bool b1, .slice ad1 n1 c1, .slice ae1 m1 d1]) (o1.below hb) rfl rfl)) rfl rfl rfl
  · intro a' w' hF' hb hd
    exact dc0 (r_call Tryz.func16 en16.1 en16.2 map0) (mYear_any _) rfl rfl
  · intro a' w' hF' hb hd
    have e3 := sHe hd 0 3 rfl rfl rfl rfl
    obtain ⟨v4_0, e4, h4_1⟩ := sH hd 1 4 rfl rfl rfl rfl
    exact dc0 (r_call Tryz.func12 en12.1 en12.2 (map2 e3 e4)) (mOf_any _ _ (qt) (pyr) k 2 _ (h1.below (below_to bel hb)) h4_1 hl pyr_lim (by omega) (by omega)) rfl rfl
  intro a w5 hF bb hall hne
  obtain ⟨vv6, e5, hh7⟩ := sS hall 2 5 rfl rfl
  clear hall hne
  replace o2 := o2.below bb
  replace bel := below_to bel bb
  clear bb
  obtain ⟨b8, ad8, n8, c8, ae8, m8, d8, rfl, hn8, hd8⟩ := Rq.shape hh7
  have hf9 := Wc.abs hn8
  replace hF := hF.add e5
  clear e5
  obtain ⟨w10, hr, tu, on⟩ := st_Rat (vs := [.bool b8, .slice ad8 n8 c8, .slice ae8 m8 d8]) o2 rfl rfl (ocB (ocS (ocS oc0))) (niB (niS (niS ni0))) (o := 0) rfl
  have kp := tu.keep o2
  refine E.st hF (r_store (hF.at 1 rfl) (hF.at 0 rfl) (hr _ rfl)) rfl rfl fun a hF => ?_
  clear hr
  replace hh7 := hh7.keep kp
  replace hn8 := hn8.keep kp
  replace hf9 := hf9.keep kp
  replace hd8 := hd8.keep kp
  replace bel := tu.below bel ge2
  clear tu kp
  replace o2 := on
  clear on
  refine E.nil ?_
  refine wp_ret ?_
  refine bodyPost_ret (res_cell Tryz.results14 (hF.at 1 rfl) (ld_Rat (vs := [.bool b8, .slice ad8 n8 c8, .slice ae8 m8 d8]) o2 rfl rfl)) hF.dfr ?_
  exact ⟨_, rfl, hh7, bel⟩

set_option maxHeartbeats 1000000 in
theorem mMoon_any (v1 : Value) (qt : Rat) (k : Nat) (w : World) (h1 : Rq w v1 qt) (hl : RLim qt k) (hk : k ≤ 400) :
    Calls Tryz.prog 17 #[v1] w (RqPost w (mof qt pmo)) := by
  have bel : Below w.heap.size w w := Below.refl _ _
  refine E.enter (nt := 6) (L := [(0, v1)]) Tryz.func17 rfl rfl rfl (args_cons (i := 0) rfl args_nil) ?_
  intro a hF
  refine wp_seq ?_
  refine E.seq ?_
  obtain ⟨b1, ad1, n1, c1, ae1, m1, d1, rfl, hn1, hd1⟩ := Rq.shape h1
  have hf2 := Wc.abs hn1
  obtain ⟨g1, w3, ge1, hr, bb, o1⟩ := own_box (P := Tryz.prog) (w := w) (cs := [.bool b1, .slice ad1 n1 c1, .slice ae1 m1 d1]) (v := .agg #[.bool b1, .slice ad1 n1 c1, .slice ae1 m1 d1]) 32 rfl (niB (niS (niS ni0)))
  replace ge1 : w.heap.size ≤ g1 := by rw [← ge1]; exact bel.size
  refine E.opv hF (r_box (hF.at 0 rfl) hr) rfl rfl rfl rfl fun a hF => ?_
  clear hr
  replace bel := below_to bel bb
  clear bb
  obtain ⟨g2, w4, ge2, hr, bb, o2⟩ := own_alloc (P := Tryz.prog) (w := w3) (cs := [.bool false, .slice none 0 0, .slice none 0 0]) 32 ze_Rat rfl (niB (niS (niS ni0)))
  have ne1_2 : g1 ≠ g2 := by rw [← ge2]; exact o1.ne_new
  replace ge2 : w.heap.size ≤ g2 := by rw [← ge2]; exact bel.size
  refine E.opv hF (r_alloc hr) rfl rfl rfl rfl fun a hF => ?_
  clear hr
  replace o1 := o1.below bb
  replace bel := below_to bel bb
  clear bb
  refine E.nil ?_
  refine wp_seq ?_
  refine E.drawn 3 mixed hF [3, 4, 5] [(fun _ v => v = .agg #[.bool b1, .slice ad1 n1 c1, .slice ae1 m1 d1]), (fun w v => Rq w v (pmo)), (fun w v => Rq w v (mof (qt) (pmo)))] [] (by decide +kernel) (by decide +kernel) rfl rfl rfl ⟨(Mb.eq _), (fun _ _ _ h hb => h.below hb), (fun _ _ _ h hb => h.below hb), trivial⟩ trivial ⟨?_, ?_, ?_, trivial⟩ ?_
  · intro a' w' hF' hb hd
    exact dv0 (r_load (hF'.at 1 rfl) (ld_Rat (vs := [.bool b1, .slice ad1 n1 c1, .slice ae1 m1 d1]) (o1.below hb) rfl rfl)) rfl rfl rfl
  · intro a' w' hF' hb hd
    exact dc0 (r_call Tryz.func18 en18.1 en18.2 map0) (mMonth_any _) rfl rfl
  · intro a' w' hF' hb hd
    have e3 := sHe hd 0 3 rfl rfl rfl rfl
    obtain ⟨v4_0, e4, h4_1⟩ := sH hd 1 4 rfl rfl rfl rfl
    exact dc0 (r_call Tryz.func12 en12.1 en12.2 (map2 e3 e4)) (mOf_any _ _ (qt) (pmo) k 2 _ (h1.below (below_to bel hb)) h4_1 hl pmo_lim (by omega) (by omega)) rfl rfl
  intro a w5 hF bb hall hne
  obtain ⟨vv6, e5, hh7⟩ := sS hall 2 5 rfl rfl
  clear hall hne
  replace o2 := o2.below bb
  replace bel := below_to bel bb
  clear bb
  obtain ⟨b8, ad8, n8, c8, ae8, m8, d8, rfl, hn8, hd8⟩ := Rq.shape hh7
  have hf9 := Wc.abs hn8
  replace hF := hF.add e5
  clear e5
  obtain ⟨w10, hr, tu, on⟩ := st_Rat (vs := [.bool b8, .slice ad8 n8 c8, .slice ae8 m8 d8]) o2 rfl rfl (ocB (ocS (ocS oc0))) (niB (niS (niS ni0))) (o := 0) rfl
  have kp := tu.keep o2
  refine E.st hF (r_store (hF.at 1 rfl) (hF.at 0 rfl) (hr _ rfl)) rfl rfl fun a hF => ?_
  clear hr
  replace hh7 := hh7.keep kp
  replace hn8 := hn8.keep kp
  replace hf9 := hf9.keep kp
  replace hd8 := hd8.keep kp
  replace bel := tu.below bel ge2
  clear tu kp
  replace o2 := on
  clear on
  refine E.nil ?_
  refine wp_ret ?_
  refine bodyPost_ret (res_cell Tryz.results17 (hF.at 1 rfl) (ld_Rat (vs := [.bool b8, .slice ad8 n8 c8, .slice ae8 m8 d8]) o2 rfl rfl)) hF.dfr ?_
  exact ⟨_, rfl, hh7, bel⟩

end Go.Proofs.YtmpdbkdijfpbbaaGreat
