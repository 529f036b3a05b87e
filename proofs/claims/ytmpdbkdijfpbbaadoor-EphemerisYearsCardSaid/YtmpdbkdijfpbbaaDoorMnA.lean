/- mean: its functions. -/
import Derived.Test.YtmpdbkdijfpbbaaDoorMnW
import Derived.Test.YtmpdbkdijfpbbaaDoorGY
namespace Go.Proofs.YtmpdbkdijfpbbaaDoor
open Go.RowKit
set_option maxRecDepth 100000
set_option linter.unusedVariables false

theorem en32 : (Tryd.f32.name == "runtime.NumGoroutine") = false ∧ Tryd.f32.body.isNone = false := ⟨by decide +kernel, by kernel_rfl⟩
theorem en44 : (Tryd.f44.name == "runtime.NumGoroutine") = false ∧ Tryd.f44.body.isNone = false := ⟨by decide +kernel, by kernel_rfl⟩
theorem en40 : (Tryd.f40.name == "runtime.NumGoroutine") = false ∧ Tryd.f40.body.isNone = false := ⟨by decide +kernel, by kernel_rfl⟩
theorem en45 : (Tryd.f45.name == "runtime.NumGoroutine") = false ∧ Tryd.f45.body.isNone = false := ⟨by decide +kernel, by kernel_rfl⟩
theorem en35 : (Tryd.f35.name == "runtime.NumGoroutine") = false ∧ Tryd.f35.body.isNone = false := ⟨by decide +kernel, by kernel_rfl⟩
theorem en75 : (Tryd.f75.name == "runtime.NumGoroutine") = false ∧ Tryd.f75.body.isNone = false := ⟨by decide +kernel, by kernel_rfl⟩
theorem en42 : (Tryd.f42.name == "runtime.NumGoroutine") = false ∧ Tryd.f42.body.isNone = false := ⟨by decide +kernel, by kernel_rfl⟩
theorem en21 : (Tryd.f21.name == "runtime.NumGoroutine") = false ∧ Tryd.f21.body.isNone = false := ⟨by decide +kernel, by kernel_rfl⟩
theorem en23 : (Tryd.f23.name == "runtime.NumGoroutine") = false ∧ Tryd.f23.body.isNone = false := ⟨by decide +kernel, by kernel_rfl⟩
set_option maxHeartbeats 1000000 in
theorem mYear_any (w : World) :
    Calls Tryd.prog 32 #[] w (RqPost w pyr) := by
  have bel : Below w.heap.size w w := Below.refl _ _
  refine E.enter (nt := 2) (L := []) Tryd.func32 rfl rfl rfl args_nil ?_
  intro a hF
  refine wp_seq ?_
  refine E.seq ?_
  obtain ⟨g0, w1, ge0, hr, bb, o0⟩ := own_alloc (P := Tryd.prog) (w := w) (cs := [.bool false, .slice none 0 0, .slice none 0 0]) 32 ze_Rat rfl (niB (niS (niS ni0)))
  replace ge0 : w.heap.size ≤ g0 := by rw [← ge0]; exact bel.size
  refine E.opv hF (r_alloc hr) rfl rfl rfl rfl fun a hF => ?_
  clear hr
  replace bel := below_to bel bb
  clear bb
  refine E.nil ?_
  refine wp_seq ?_
  refine E.seq ?_
  refine E.call hF (r_call Tryd.func15 en15.1 en15.2 (map2 ev_c ev_c)) (rOf2_any (1577917828000) (4320000000) _ (by decide) (by decide) (by decide) (by decide)) rfl rfl rfl rfl ?_
  rintro e w2 ⟨vv3, rfl, hh4, bb⟩
  refine ⟨_, rfl, ?_⟩
  intro a hF
  replace o0 := o0.below bb
  replace bel := below_to bel bb
  clear bb
  obtain ⟨b5, ad5, n5, c5, ae5, m5, d5, rfl, hn5, hd5⟩ := Rq.shape hh4
  have hf6 := Wc.abs hn5
  obtain ⟨w7, hr, tu, on⟩ := st_Rat (vs := [.bool b5, .slice ad5 n5 c5, .slice ae5 m5 d5]) o0 rfl rfl (ocB (ocS (ocS oc0))) (niB (niS (niS ni0))) (o := 0) rfl
  have kp := tu.keep o0
  refine E.st hF (r_store (hF.at 1 rfl) (hF.at 0 rfl) (hr _ rfl)) rfl rfl fun a hF => ?_
  clear hr
  replace hh4 := hh4.keep kp
  replace hn5 := hn5.keep kp
  replace hf6 := hf6.keep kp
  replace hd5 := hd5.keep kp
  replace bel := tu.below bel ge0
  clear tu kp
  replace o0 := on
  clear on
  refine E.nil ?_
  refine wp_ret ?_
  refine bodyPost_ret (res_cell Tryd.results32 (hF.at 1 rfl) (ld_Rat (vs := [.bool b5, .slice ad5 n5 c5, .slice ae5 m5 d5]) o0 rfl rfl)) hF.dfr ?_
  exact ⟨_, rfl, hh4, bel⟩

set_option maxHeartbeats 1000000 in
theorem mMonth_any (w : World) :
    Calls Tryd.prog 44 #[] w (RqPost w pmo) := by
  have bel : Below w.heap.size w w := Below.refl _ _
  refine E.enter (nt := 2) (L := []) Tryd.func44 rfl rfl rfl args_nil ?_
  intro a hF
  refine wp_seq ?_
  refine E.seq ?_
  obtain ⟨g0, w1, ge0, hr, bb, o0⟩ := own_alloc (P := Tryd.prog) (w := w) (cs := [.bool false, .slice none 0 0, .slice none 0 0]) 32 ze_Rat rfl (niB (niS (niS ni0)))
  replace ge0 : w.heap.size ≤ g0 := by rw [← ge0]; exact bel.size
  refine E.opv hF (r_alloc hr) rfl rfl rfl rfl fun a hF => ?_
  clear hr
  replace bel := below_to bel bb
  clear bb
  refine E.nil ?_
  refine wp_seq ?_
  refine E.seq ?_
  refine E.call hF (r_call Tryd.func15 en15.1 en15.2 (map2 ev_c ev_c)) (rOf2_any (1577917828) (57753336) _ (by decide) (by decide) (by decide) (by decide)) rfl rfl rfl rfl ?_
  rintro e w2 ⟨vv3, rfl, hh4, bb⟩
  refine ⟨_, rfl, ?_⟩
  intro a hF
  replace o0 := o0.below bb
  replace bel := below_to bel bb
  clear bb
  obtain ⟨b5, ad5, n5, c5, ae5, m5, d5, rfl, hn5, hd5⟩ := Rq.shape hh4
  have hf6 := Wc.abs hn5
  obtain ⟨w7, hr, tu, on⟩ := st_Rat (vs := [.bool b5, .slice ad5 n5 c5, .slice ae5 m5 d5]) o0 rfl rfl (ocB (ocS (ocS oc0))) (niB (niS (niS ni0))) (o := 0) rfl
  have kp := tu.keep o0
  refine E.st hF (r_store (hF.at 1 rfl) (hF.at 0 rfl) (hr _ rfl)) rfl rfl fun a hF => ?_
  clear hr
  replace hh4 := hh4.keep kp
  replace hn5 := hn5.keep kp
  replace hf6 := hf6.keep kp
  replace hd5 := hd5.keep kp
  replace bel := tu.below bel ge0
  clear tu kp
  replace o0 := on
  clear on
  refine E.nil ?_
  refine wp_ret ?_
  refine bodyPost_ret (res_cell Tryd.results44 (hF.at 1 rfl) (ld_Rat (vs := [.bool b5, .slice ad5 n5 c5, .slice ae5 m5 d5]) o0 rfl rfl)) hF.dfr ?_
  exact ⟨_, rfl, hh4, bel⟩

set_option maxHeartbeats 1000000 in
theorem mAnomalyYear_any (w : World) :
    Calls Tryd.prog 40 #[] w (RqPost w pay) := by
  have bel : Below w.heap.size w w := Below.refl _ _
  refine E.enter (nt := 2) (L := []) Tryd.func40 rfl rfl rfl args_nil ?_
  intro a hF
  refine wp_seq ?_
  refine E.seq ?_
  obtain ⟨g0, w1, ge0, hr, bb, o0⟩ := own_alloc (P := Tryd.prog) (w := w) (cs := [.bool false, .slice none 0 0, .slice none 0 0]) 32 ze_Rat rfl (niB (niS (niS ni0)))
  replace ge0 : w.heap.size ≤ g0 := by rw [← ge0]; exact bel.size
  refine E.opv hF (r_alloc hr) rfl rfl rfl rfl fun a hF => ?_
  clear hr
  replace bel := below_to bel bb
  clear bb
  refine E.nil ?_
  refine wp_seq ?_
  refine E.seq ?_
  refine E.call hF (r_call Tryd.func15 en15.1 en15.2 (map2 ev_c ev_c)) (rOf2_any (1577917828000) (4319999613) _ (by decide) (by decide) (by decide) (by decide)) rfl rfl rfl rfl ?_
  rintro e w2 ⟨vv3, rfl, hh4, bb⟩
  refine ⟨_, rfl, ?_⟩
  intro a hF
  replace o0 := o0.below bb
  replace bel := below_to bel bb
  clear bb
  obtain ⟨b5, ad5, n5, c5, ae5, m5, d5, rfl, hn5, hd5⟩ := Rq.shape hh4
  have hf6 := Wc.abs hn5
  obtain ⟨w7, hr, tu, on⟩ := st_Rat (vs := [.bool b5, .slice ad5 n5 c5, .slice ae5 m5 d5]) o0 rfl rfl (ocB (ocS (ocS oc0))) (niB (niS (niS ni0))) (o := 0) rfl
  have kp := tu.keep o0
  refine E.st hF (r_store (hF.at 1 rfl) (hF.at 0 rfl) (hr _ rfl)) rfl rfl fun a hF => ?_
  clear hr
  replace hh4 := hh4.keep kp
  replace hn5 := hn5.keep kp
  replace hf6 := hf6.keep kp
  replace hd5 := hd5.keep kp
  replace bel := tu.below bel ge0
  clear tu kp
  replace o0 := on
  clear on
  refine E.nil ?_
  refine wp_ret ?_
  refine bodyPost_ret (res_cell Tryd.results40 (hF.at 1 rfl) (ld_Rat (vs := [.bool b5, .slice ad5 n5 c5, .slice ae5 m5 d5]) o0 rfl rfl)) hF.dfr ?_
  exact ⟨_, rfl, hh4, bel⟩

set_option maxHeartbeats 1000000 in
theorem mAnomalyMonth_any (w : World) :
    Calls Tryd.prog 45 #[] w (RqPost w pam) := by
  have bel : Below w.heap.size w w := Below.refl _ _
  refine E.enter (nt := 2) (L := []) Tryd.func45 rfl rfl rfl args_nil ?_
  intro a hF
  refine wp_seq ?_
  refine E.seq ?_
  obtain ⟨g0, w1, ge0, hr, bb, o0⟩ := own_alloc (P := Tryd.prog) (w := w) (cs := [.bool false, .slice none 0 0, .slice none 0 0]) 32 ze_Rat rfl (niB (niS (niS ni0)))
  replace ge0 : w.heap.size ≤ g0 := by rw [← ge0]; exact bel.size
  refine E.opv hF (r_alloc hr) rfl rfl rfl rfl fun a hF => ?_
  clear hr
  replace bel := below_to bel bb
  clear bb
  refine E.nil ?_
  refine wp_seq ?_
  refine E.seq ?_
  refine E.call hF (r_call Tryd.func15 en15.1 en15.2 (map2 ev_c ev_c)) (rOf2_any (1577917828) (57265137) _ (by decide) (by decide) (by decide) (by decide)) rfl rfl rfl rfl ?_
  rintro e w2 ⟨vv3, rfl, hh4, bb⟩
  refine ⟨_, rfl, ?_⟩
  intro a hF
  replace o0 := o0.below bb
  replace bel := below_to bel bb
  clear bb
  obtain ⟨b5, ad5, n5, c5, ae5, m5, d5, rfl, hn5, hd5⟩ := Rq.shape hh4
  have hf6 := Wc.abs hn5
  obtain ⟨w7, hr, tu, on⟩ := st_Rat (vs := [.bool b5, .slice ad5 n5 c5, .slice ae5 m5 d5]) o0 rfl rfl (ocB (ocS (ocS oc0))) (niB (niS (niS ni0))) (o := 0) rfl
  have kp := tu.keep o0
  refine E.st hF (r_store (hF.at 1 rfl) (hF.at 0 rfl) (hr _ rfl)) rfl rfl fun a hF => ?_
  clear hr
  replace hh4 := hh4.keep kp
  replace hn5 := hn5.keep kp
  replace hf6 := hf6.keep kp
  replace hd5 := hd5.keep kp
  replace bel := tu.below bel ge0
  clear tu kp
  replace o0 := on
  clear on
  refine E.nil ?_
  refine wp_ret ?_
  refine bodyPost_ret (res_cell Tryd.results45 (hF.at 1 rfl) (ld_Rat (vs := [.bool b5, .slice ad5 n5 c5, .slice ae5 m5 d5]) o0 rfl rfl)) hF.dfr ?_
  exact ⟨_, rfl, hh4, bel⟩

set_option maxHeartbeats 1000000 in
theorem mCreation_any (w : World) :
    Calls Tryd.prog 35 #[] w (RqPost w cre) := by
  have bel : Below w.heap.size w w := Below.refl _ _
  refine E.enter (nt := 2) (L := []) Tryd.func35 rfl rfl rfl args_nil ?_
  intro a hF
  refine wp_seq ?_
  refine E.seq ?_
  obtain ⟨g0, w1, ge0, hr, bb, o0⟩ := own_alloc (P := Tryd.prog) (w := w) (cs := [.bool false, .slice none 0 0, .slice none 0 0]) 32 ze_Rat rfl (niB (niS (niS ni0)))
  replace ge0 : w.heap.size ≤ g0 := by rw [← ge0]; exact bel.size
  refine E.opv hF (r_alloc hr) rfl rfl rfl rfl fun a hF => ?_
  clear hr
  replace bel := below_to bel bb
  clear bb
  refine E.nil ?_
  refine wp_seq ?_
  refine E.seq ?_
  refine E.call hF (r_call Tryd.func19 en19.1 en19.2 (map1 ev_c)) (rWhole_any ((-714403429586)) _ (by decide) (by decide)) rfl rfl rfl rfl ?_
  rintro e w2 ⟨vv3, rfl, hh4, bb⟩
  refine ⟨_, rfl, ?_⟩
  intro a hF
  replace o0 := o0.below bb
  replace bel := below_to bel bb
  clear bb
  obtain ⟨b5, ad5, n5, c5, ae5, m5, d5, rfl, hn5, hd5⟩ := Rq.shape hh4
  have hf6 := Wc.abs hn5
  obtain ⟨w7, hr, tu, on⟩ := st_Rat (vs := [.bool b5, .slice ad5 n5 c5, .slice ae5 m5 d5]) o0 rfl rfl (ocB (ocS (ocS oc0))) (niB (niS (niS ni0))) (o := 0) rfl
  have kp := tu.keep o0
  refine E.st hF (r_store (hF.at 1 rfl) (hF.at 0 rfl) (hr _ rfl)) rfl rfl fun a hF => ?_
  clear hr
  replace hh4 := hh4.keep kp
  replace hn5 := hn5.keep kp
  replace hf6 := hf6.keep kp
  replace hd5 := hd5.keep kp
  replace bel := tu.below bel ge0
  clear tu kp
  replace o0 := on
  clear on
  refine E.nil ?_
  refine wp_ret ?_
  refine bodyPost_ret (res_cell Tryd.results35 (hF.at 1 rfl) (ld_Rat (vs := [.bool b5, .slice ad5 n5 c5, .slice ae5 m5 d5]) o0 rfl rfl)) hF.dfr ?_
  exact ⟨_, rfl, hh4, bel⟩

set_option maxHeartbeats 1000000 in
theorem mTurns_any (v1 v2 : Value) (qt qp : Rat) (k j : Nat) (w : World) (h1 : Rq w v1 qt) (h2 : Rq w v2 qp) (hl : RLim qt k) (hm : RLim qp j) (hk : k ≤ 400) (hj : j ≤ 400) :
    Calls Tryd.prog 75 #[v1, v2] w (RqPost w (mturn qt qp)) := by
  have bel : Below w.heap.size w w := Below.refl _ _
  refine E.enter (nt := 10) (L := [(0, v1), (1, v2)]) Tryd.func75 rfl rfl rfl (args_cons (i := 0) rfl (args_cons (i := 1) rfl args_nil)) ?_
  intro a hF
  refine wp_seq ?_
  refine E.seq ?_
  obtain ⟨b1, ad1, n1, c1, ae1, m1, d1, rfl, hn1, hd1⟩ := Rq.shape h1
  have hf2 := Wc.abs hn1
  obtain ⟨g2, w3, ge2, hr, bb, o2⟩ := own_box (P := Tryd.prog) (w := w) (cs := [.bool b1, .slice ad1 n1 c1, .slice ae1 m1 d1]) (v := .agg #[.bool b1, .slice ad1 n1 c1, .slice ae1 m1 d1]) 32 rfl (niB (niS (niS ni0)))
  replace ge2 : w.heap.size ≤ g2 := by rw [← ge2]; exact bel.size
  refine E.opv hF (r_box (hF.at 0 rfl) hr) rfl rfl rfl rfl fun a hF => ?_
  clear hr
  replace h2 := h2.below bb
  replace h1 := h1.below bb
  replace hn1 := hn1.below bb
  replace hf2 := hf2.below bb
  replace hd1 := hd1.below bb
  replace bel := below_to bel bb
  clear bb
  obtain ⟨b4, ad4, n4, c4, ae4, m4, d4, rfl, hn4, hd4⟩ := Rq.shape h2
  have hf5 := Wc.abs hn4
  obtain ⟨g3, w6, ge3, hr, bb, o3⟩ := own_box (P := Tryd.prog) (w := w3) (cs := [.bool b4, .slice ad4 n4 c4, .slice ae4 m4 d4]) (v := .agg #[.bool b4, .slice ad4 n4 c4, .slice ae4 m4 d4]) 32 rfl (niB (niS (niS ni0)))
  have ne2_3 : g2 ≠ g3 := by rw [← ge3]; exact o2.ne_new
  replace ge3 : w.heap.size ≤ g3 := by rw [← ge3]; exact bel.size
  refine E.opv hF (r_box (hF.at 2 rfl) hr) rfl rfl rfl rfl fun a hF => ?_
  clear hr
  replace hf2 := hf2.below bb
  replace hd1 := hd1.below bb
  replace h1 := h1.below bb
  replace hn1 := hn1.below bb
  replace h2 := h2.below bb
  replace hn4 := hn4.below bb
  replace hf5 := hf5.below bb
  replace hd4 := hd4.below bb
  replace o2 := o2.below bb
  replace bel := below_to bel bb
  clear bb
  obtain ⟨g4, w7, ge4, hr, bb, o4⟩ := own_alloc (P := Tryd.prog) (w := w6) (cs := [.bool false, .slice none 0 0, .slice none 0 0]) 32 ze_Rat rfl (niB (niS (niS ni0)))
  have ne2_4 : g2 ≠ g4 := by rw [← ge4]; exact o2.ne_new
  have ne3_4 : g3 ≠ g4 := by rw [← ge4]; exact o3.ne_new
  replace ge4 : w.heap.size ≤ g4 := by rw [← ge4]; exact bel.size
  refine E.opv hF (r_alloc hr) rfl rfl rfl rfl fun a hF => ?_
  clear hr
  replace hf2 := hf2.below bb
  replace hd1 := hd1.below bb
  replace h1 := h1.below bb
  replace hn1 := hn1.below bb
  replace hf5 := hf5.below bb
  replace hd4 := hd4.below bb
  replace h2 := h2.below bb
  replace hn4 := hn4.below bb
  replace o2 := o2.below bb
  replace o3 := o3.below bb
  replace bel := below_to bel bb
  clear bb
  refine E.nil ?_
  refine wp_seq ?_
  refine E.drawn 5 mixed hF [5, 6, 7, 8, 9] [(fun _ v => v = .agg #[.bool b1, .slice ad1 n1 c1, .slice ae1 m1 d1]), (fun w v => Rq w v (cre)), (fun w v => Rq w v ((qt) - (cre))), (fun _ v => v = .agg #[.bool b4, .slice ad4 n4 c4, .slice ae4 m4 d4]), (fun w v => Rq w v (((qt) - (cre)) / (qp)))] [] (by decide +kernel) (by decide +kernel) rfl rfl rfl ⟨(Mb.eq _), (fun _ _ _ h hb => h.below hb), (fun _ _ _ h hb => h.below hb), (Mb.eq _), (fun _ _ _ h hb => h.below hb), trivial⟩ trivial ⟨?_, ?_, ?_, ?_, ?_, trivial⟩ ?_
  · intro a' w' hF' hb hd
    exact if_does (wanted_free rfl) (Does.vals (r_load (hF'.at 2 rfl) (ld_Rat (vs := [.bool b1, .slice ad1 n1 c1, .slice ae1 m1 d1]) (o2.below hb) rfl rfl)) ⟨rfl, Below.refl _ _, (fun h => absurd h (by decide))⟩)
  · intro a' w' hF' hb hd
    refine if_does (wanted_free rfl) (Does.calls (r_call Tryd.func35 en35.1 en35.2 map0) (mCreation_any _) ?_)
    rintro e w'' ⟨v', rfl, h', bb⟩
    exact ⟨_, rfl, h', bb, (fun h => absurd h (by decide))⟩
  · intro a' w' hF' hb hd
    have e5 : a'.tmps.getD 5 undef = .agg #[.bool b1, .slice ad1 n1 c1, .slice ae1 m1 d1] := hd _ 5 (Array.mem_of_getElem? (i := 0) rfl) rfl rfl
    obtain ⟨v6_0, e6, h6_1⟩ : ∃ v, a'.tmps.getD 6 undef = v ∧ Rq w' v (cre) := ⟨_, rfl, hd _ 6 (Array.mem_of_getElem? (i := 1) rfl) rfl rfl⟩
    refine if_does (wanted_free rfl) (Does.calls (r_call Tryd.func25 en25.1 en25.2 (map2 e5 e6)) (rSub_any _ _ (qt) (cre) (max k 2) _ (h1.below hb) h6_1 (hl.up _ (by omega)) (cre_lim.up _ (by omega)) (by omega)) ?_)
    rintro e w'' ⟨v', rfl, h', bb⟩
    exact ⟨_, rfl, h', bb, (fun h => absurd h (by decide))⟩
  · intro a' w' hF' hb hd
    exact if_does (wanted_free rfl) (Does.vals (r_load (hF'.at 1 rfl) (ld_Rat (vs := [.bool b4, .slice ad4 n4 c4, .slice ae4 m4 d4]) (o3.below hb) rfl rfl)) ⟨rfl, Below.refl _ _, (fun h => absurd h (by decide))⟩)
  · intro a' w' hF' hb hd
    obtain ⟨v7_0, e7, h7_1⟩ : ∃ v, a'.tmps.getD 7 undef = v ∧ Rq w' v ((qt) - (cre)) := ⟨_, rfl, hd _ 7 (Array.mem_of_getElem? (i := 0) rfl) rfl rfl⟩
    have e8 : a'.tmps.getD 8 undef = .agg #[.bool b4, .slice ad4 n4 c4, .slice ae4 m4 d4] := hd _ 8 (Array.mem_of_getElem? (i := 1) rfl) rfl rfl
    refine if_does (wanted_free rfl) (Does.calls (r_call Tryd.func55 en55.1 en55.2 (map2 e7 e8)) (rDiv_any _ _ ((qt) - (cre)) (qp) (max (k + 2 + 1) j) _ h7_1 (h2.below hb) ((rlim_sub hl cre_lim).up _ (by omega)) (hm.up _ (by omega)) (by omega)) ?_)
    rintro e w'' ⟨v', rfl, h', bb⟩
    exact ⟨_, rfl, h', bb, (fun h => absurd h (by decide))⟩
  intro a w8 hF bb hall hne
  obtain ⟨vv9, e9, hh10⟩ : ∃ v, a.tmps.getD 9 undef = v ∧ Rq w8 v (((qt) - (cre)) / (qp)) := ⟨_, rfl, hall 4 9 rfl⟩
  clear hall hne
  replace o4 := o4.below bb
  replace bel := below_to bel bb
  clear bb
  obtain ⟨b11, ad11, n11, c11, ae11, m11, d11, rfl, hn11, hd11⟩ := Rq.shape hh10
  have hf12 := Wc.abs hn11
  replace hF := hF.add e9
  clear e9
  obtain ⟨w13, hr, tu, on⟩ := st_Rat (vs := [.bool b11, .slice ad11 n11 c11, .slice ae11 m11 d11]) o4 rfl rfl (ocB (ocS (ocS oc0))) (niB (niS (niS ni0))) (o := 0) rfl
  have kp := tu.keep o4
  refine E.st hF (r_store (hF.at 1 rfl) (hF.at 0 rfl) (hr _ rfl)) rfl rfl fun a hF => ?_
  clear hr
  replace hh10 := hh10.keep kp
  replace hn11 := hn11.keep kp
  replace hf12 := hf12.keep kp
  replace hd11 := hd11.keep kp
  replace bel := tu.below bel ge4
  clear tu kp
  replace o4 := on
  clear on
  refine E.nil ?_
  refine wp_ret ?_
  refine bodyPost_ret (res_cell Tryd.results75 (hF.at 1 rfl) (ld_Rat (vs := [.bool b11, .slice ad11 n11 c11, .slice ae11 m11 d11]) o4 rfl rfl)) hF.dfr ?_
  exact ⟨_, rfl, hh10, bel⟩

theorem mof_no {t p : Rat} (h : sz p.num ≤ 0) : (0 : Rat) = mof t p := by unfold mof; rw [if_pos (sz_le0.1 h)]
theorem mof_yes {t p : Rat} (h : ¬ sz p.num ≤ 0) : (mturn t p - (((mturn t p).floor : Int) : Rat)) * ((360 : Int) : Rat) = mof t p := by unfold mof mfr; rw [if_neg (fun e => h (sz_le0.2 e))]
set_option maxHeartbeats 1000000 in
theorem mOf_any (v1 v2 : Value) (qt qp : Rat) (k j : Nat) (w : World) (h1 : Rq w v1 qt) (h2 : Rq w v2 qp) (hl : RLim qt k) (hm : RLim qp j) (hk : k ≤ 400) (hj : j ≤ 400) :
    Calls Tryd.prog 42 #[v1, v2] w (RqPost w (mof qt qp)) := by
  by_cases h0 : sz (Rat.num (qp)) ≤ 0
  · have bel : Below w.heap.size w w := Below.refl _ _
    refine E.enter (nt := 15) (L := [(0, v1), (1, v2)]) Tryd.func42 rfl rfl rfl (args_cons (i := 0) rfl (args_cons (i := 1) rfl args_nil)) ?_
    intro a hF
    refine wp_seq ?_
    refine E.seq ?_
    obtain ⟨b1, ad1, n1, c1, ae1, m1, d1, rfl, hn1, hd1⟩ := Rq.shape h1
    have hf2 := Wc.abs hn1
    obtain ⟨g2, w3, ge2, hr, bb, o2⟩ := own_box (P := Tryd.prog) (w := w) (cs := [.bool b1, .slice ad1 n1 c1, .slice ae1 m1 d1]) (v := .agg #[.bool b1, .slice ad1 n1 c1, .slice ae1 m1 d1]) 32 rfl (niB (niS (niS ni0)))
    replace ge2 : w.heap.size ≤ g2 := by rw [← ge2]; exact bel.size
    refine E.opv hF (r_box (hF.at 0 rfl) hr) rfl rfl rfl rfl fun a hF => ?_
    clear hr
    replace h2 := h2.below bb
    replace h1 := h1.below bb
    replace hn1 := hn1.below bb
    replace hf2 := hf2.below bb
    replace hd1 := hd1.below bb
    replace bel := below_to bel bb
    clear bb
    obtain ⟨b4, ad4, n4, c4, ae4, m4, d4, rfl, hn4, hd4⟩ := Rq.shape h2
    have hf5 := Wc.abs hn4
    obtain ⟨g3, w6, ge3, hr, bb, o3⟩ := own_box (P := Tryd.prog) (w := w3) (cs := [.bool b4, .slice ad4 n4 c4, .slice ae4 m4 d4]) (v := .agg #[.bool b4, .slice ad4 n4 c4, .slice ae4 m4 d4]) 32 rfl (niB (niS (niS ni0)))
    have ne2_3 : g2 ≠ g3 := by rw [← ge3]; exact o2.ne_new
    replace ge3 : w.heap.size ≤ g3 := by rw [← ge3]; exact bel.size
    refine E.opv hF (r_box (hF.at 2 rfl) hr) rfl rfl rfl rfl fun a hF => ?_
    clear hr
    replace hf2 := hf2.below bb
    replace hd1 := hd1.below bb
    replace h1 := h1.below bb
    replace hn1 := hn1.below bb
    replace h2 := h2.below bb
    replace hn4 := hn4.below bb
    replace hf5 := hf5.below bb
    replace hd4 := hd4.below bb
    replace o2 := o2.below bb
    replace bel := below_to bel bb
    clear bb
    obtain ⟨g4, w7, ge4, hr, bb, o4⟩ := own_alloc (P := Tryd.prog) (w := w6) (cs := [.bool false, .slice none 0 0, .slice none 0 0]) 32 ze_Rat rfl (niB (niS (niS ni0)))
    have ne2_4 : g2 ≠ g4 := by rw [← ge4]; exact o2.ne_new
    have ne3_4 : g3 ≠ g4 := by rw [← ge4]; exact o3.ne_new
    replace ge4 : w.heap.size ≤ g4 := by rw [← ge4]; exact bel.size
    refine E.opv hF (r_alloc hr) rfl rfl rfl rfl fun a hF => ?_
    clear hr
    replace hf2 := hf2.below bb
    replace hd1 := hd1.below bb
    replace h1 := h1.below bb
    replace hn1 := hn1.below bb
    replace hf5 := hf5.below bb
    replace hd4 := hd4.below bb
    replace h2 := h2.below bb
    replace hn4 := hn4.below bb
    replace o2 := o2.below bb
    replace o3 := o3.below bb
    replace bel := below_to bel bb
    clear bb
    refine E.nil ?_
    refine wp_seq ?_
    refine wp_seq ?_
    refine E.seq ?_
    refine E.opv hF (r_load (hF.at 1 rfl) (ld_Rat (vs := [.bool b4, .slice ad4 n4 c4, .slice ae4 m4 d4]) o3 rfl rfl)) rfl rfl rfl rfl fun a hF => ?_
    refine E.call hF (r_call Tryd.func36 en36.1 en36.2 (map1 (hF.at 0 rfl))) (rsgn_any _ (qp) _ h2) rfl rfl rfl rfl ?_
    rintro e w8 ⟨rfl, bb⟩
    refine ⟨_, rfl, ?_⟩
    intro a hF
    replace hf2 := hf2.below bb
    replace hd1 := hd1.below bb
    replace h1 := h1.below bb
    replace hn1 := hn1.below bb
    replace hf5 := hf5.below bb
    replace hd4 := hd4.below bb
    replace h2 := h2.below bb
    replace hn4 := hn4.below bb
    replace o2 := o2.below bb
    replace o3 := o3.below bb
    replace o4 := o4.below bb
    replace bel := below_to bel bb
    clear bb
    refine E.opv hF (r_bin (hF.at 0 rfl) ev_c eg_scalar (bi_int (ic_leq (c := true) (dec_tt h0)) (by simp))) rfl rfl rfl rfl fun a hF => ?_
    refine E.nil ?_
    refine wp_cond_true (hF.at 0 rfl) ?_
    refine wp_seq ?_
    refine E.seq ?_
    refine E.opv hF (r_build (by simp) (bd_Rat_ _)) rfl rfl rfl rfl fun a hF => ?_
    obtain ⟨w9, hr, tu, on⟩ := st_Rat (vs := [.bool false, .slice none 0 0, .slice none 0 0]) o4 rfl rfl (ocB (ocS (ocS oc0))) (niB (niS (niS ni0))) (o := 0) rfl
    have kp := tu.keep o4
    refine E.st hF (r_store (hF.at 4 rfl) (hF.at 0 rfl) (hr _ rfl)) rfl rfl fun a hF => ?_
    clear hr
    replace hf2 := hf2.keep kp
    replace hd1 := hd1.keep kp
    replace h1 := h1.keep kp
    replace hn1 := hn1.keep kp
    replace hf5 := hf5.keep kp
    replace hd4 := hd4.keep kp
    replace h2 := h2.keep kp
    replace hn4 := hn4.keep kp
    replace o2 := tu.own o2 ne2_4
    replace o3 := tu.own o3 ne3_4
    replace bel := tu.below bel ge4
    clear tu kp
    replace o4 := on
    clear on
    refine E.nil ?_
    refine wp_ret ?_
    refine bodyPost_ret (res_cell Tryd.results42 (hF.at 4 rfl) (ld_Rat (vs := [.bool false, .slice none 0 0, .slice none 0 0]) o4 rfl rfl)) hF.dfr ?_
    exact ⟨_, rfl, Rq.castM (Rq.zero _) (mof_no h0), bel⟩
  · have bel : Below w.heap.size w w := Below.refl _ _
    refine E.enter (nt := 15) (L := [(0, v1), (1, v2)]) Tryd.func42 rfl rfl rfl (args_cons (i := 0) rfl (args_cons (i := 1) rfl args_nil)) ?_
    intro a hF
    refine wp_seq ?_
    refine E.seq ?_
    obtain ⟨b1, ad1, n1, c1, ae1, m1, d1, rfl, hn1, hd1⟩ := Rq.shape h1
    have hf2 := Wc.abs hn1
    obtain ⟨g2, w3, ge2, hr, bb, o2⟩ := own_box (P := Tryd.prog) (w := w) (cs := [.bool b1, .slice ad1 n1 c1, .slice ae1 m1 d1]) (v := .agg #[.bool b1, .slice ad1 n1 c1, .slice ae1 m1 d1]) 32 rfl (niB (niS (niS ni0)))
    replace ge2 : w.heap.size ≤ g2 := by rw [← ge2]; exact bel.size
    refine E.opv hF (r_box (hF.at 0 rfl) hr) rfl rfl rfl rfl fun a hF => ?_
    clear hr
    replace h2 := h2.below bb
    replace h1 := h1.below bb
    replace hn1 := hn1.below bb
    replace hf2 := hf2.below bb
    replace hd1 := hd1.below bb
    replace bel := below_to bel bb
    clear bb
    obtain ⟨b4, ad4, n4, c4, ae4, m4, d4, rfl, hn4, hd4⟩ := Rq.shape h2
    have hf5 := Wc.abs hn4
    obtain ⟨g3, w6, ge3, hr, bb, o3⟩ := own_box (P := Tryd.prog) (w := w3) (cs := [.bool b4, .slice ad4 n4 c4, .slice ae4 m4 d4]) (v := .agg #[.bool b4, .slice ad4 n4 c4, .slice ae4 m4 d4]) 32 rfl (niB (niS (niS ni0)))
    have ne2_3 : g2 ≠ g3 := by rw [← ge3]; exact o2.ne_new
    replace ge3 : w.heap.size ≤ g3 := by rw [← ge3]; exact bel.size
    refine E.opv hF (r_box (hF.at 2 rfl) hr) rfl rfl rfl rfl fun a hF => ?_
    clear hr
    replace hf2 := hf2.below bb
    replace hd1 := hd1.below bb
    replace h1 := h1.below bb
    replace hn1 := hn1.below bb
    replace h2 := h2.below bb
    replace hn4 := hn4.below bb
    replace hf5 := hf5.below bb
    replace hd4 := hd4.below bb
    replace o2 := o2.below bb
    replace bel := below_to bel bb
    clear bb
    obtain ⟨g4, w7, ge4, hr, bb, o4⟩ := own_alloc (P := Tryd.prog) (w := w6) (cs := [.bool false, .slice none 0 0, .slice none 0 0]) 32 ze_Rat rfl (niB (niS (niS ni0)))
    have ne2_4 : g2 ≠ g4 := by rw [← ge4]; exact o2.ne_new
    have ne3_4 : g3 ≠ g4 := by rw [← ge4]; exact o3.ne_new
    replace ge4 : w.heap.size ≤ g4 := by rw [← ge4]; exact bel.size
    refine E.opv hF (r_alloc hr) rfl rfl rfl rfl fun a hF => ?_
    clear hr
    replace hf2 := hf2.below bb
    replace hd1 := hd1.below bb
    replace h1 := h1.below bb
    replace hn1 := hn1.below bb
    replace hf5 := hf5.below bb
    replace hd4 := hd4.below bb
    replace h2 := h2.below bb
    replace hn4 := hn4.below bb
    replace o2 := o2.below bb
    replace o3 := o3.below bb
    replace bel := below_to bel bb
    clear bb
    refine E.nil ?_
    refine wp_seq ?_
    refine wp_seq ?_
    refine E.seq ?_
    refine E.opv hF (r_load (hF.at 1 rfl) (ld_Rat (vs := [.bool b4, .slice ad4 n4 c4, .slice ae4 m4 d4]) o3 rfl rfl)) rfl rfl rfl rfl fun a hF => ?_
    refine E.call hF (r_call Tryd.func36 en36.1 en36.2 (map1 (hF.at 0 rfl))) (rsgn_any _ (qp) _ h2) rfl rfl rfl rfl ?_
    rintro e w8 ⟨rfl, bb⟩
    refine ⟨_, rfl, ?_⟩
    intro a hF
    replace hf2 := hf2.below bb
    replace hd1 := hd1.below bb
    replace h1 := h1.below bb
    replace hn1 := hn1.below bb
    replace hf5 := hf5.below bb
    replace hd4 := hd4.below bb
    replace h2 := h2.below bb
    replace hn4 := hn4.below bb
    replace o2 := o2.below bb
    replace o3 := o3.below bb
    replace o4 := o4.below bb
    replace bel := below_to bel bb
    clear bb
    refine E.opv hF (r_bin (hF.at 0 rfl) ev_c eg_scalar (bi_int (ic_leq (c := false) (dec_ff h0)) (by simp))) rfl rfl rfl rfl fun a hF => ?_
    refine E.nil ?_
    refine wp_cond_false (hF.at 0 rfl) ?_
    refine wp_skip ?_
    refine E.norm ?_
    refine wp_seq ?_
    refine E.seq ?_
    refine E.opv hF (r_load (hF.at 5 rfl) (ld_Rat (vs := [.bool b1, .slice ad1 n1 c1, .slice ae1 m1 d1]) o2 rfl rfl)) rfl rfl rfl rfl fun a hF => ?_
    refine E.opv hF (r_load (hF.at 5 rfl) (ld_Rat (vs := [.bool b4, .slice ad4 n4 c4, .slice ae4 m4 d4]) o3 rfl rfl)) rfl rfl rfl rfl fun a hF => ?_
    refine E.call hF (r_call Tryd.func75 en75.1 en75.2 (map2 (hF.at 1 rfl) (hF.at 0 rfl))) (mTurns_any _ _ (qt) (qp) k j _ h1 h2 hl hm (by omega) (by omega)) rfl rfl rfl rfl ?_
    rintro e w9 ⟨vv10, rfl, hh11, bb⟩
    refine ⟨_, rfl, ?_⟩
    intro a hF
    replace o4 := o4.below bb
    replace bel := below_to bel bb
    clear bb
    obtain ⟨b12, ad12, n12, c12, ae12, m12, d12, rfl, hn12, hd12⟩ := Rq.shape hh11
    have hf13 := Wc.abs hn12
    refine E.call hF (r_call Tryd.func74 en74.1 en74.2 (map1 (hF.at 0 rfl))) (cFrac_any _ (mturn (qt) (qp)) (k + j + 3) _ hh11 (mturn_lim hl hm) (by omega)) rfl rfl rfl rfl ?_
    rintro e w14 ⟨vv15, rfl, hh16, bb⟩
    refine ⟨_, rfl, ?_⟩
    intro a hF
    replace o4 := o4.below bb
    replace bel := below_to bel bb
    clear bb
    obtain ⟨b17, ad17, n17, c17, ae17, m17, d17, rfl, hn17, hd17⟩ := Rq.shape hh16
    have hf18 := Wc.abs hn17
    refine E.call hF (r_call Tryd.func19 en19.1 en19.2 (map1 ev_c)) (rWhole_any (360) _ (by decide) (by decide)) rfl rfl rfl rfl ?_
    rintro e w19 ⟨vv20, rfl, hh21, bb⟩
    refine ⟨_, rfl, ?_⟩
    intro a hF
    replace hh16 := hh16.below bb
    replace hn17 := hn17.below bb
    replace hf18 := hf18.below bb
    replace hd17 := hd17.below bb
    replace o4 := o4.below bb
    replace bel := below_to bel bb
    clear bb
    obtain ⟨b22, ad22, n22, c22, ae22, m22, d22, rfl, hn22, hd22⟩ := Rq.shape hh21
    have hf23 := Wc.abs hn22
    refine E.call hF (r_call Tryd.func33 en33.1 en33.2 (map2 (hF.at 1 rfl) (hF.at 0 rfl))) (rMul_any _ _ ((mturn (qt) (qp)) - ((Rat.floor (mturn (qt) (qp)) : Int) : Rat)) (((360 : Int) : Rat)) (max (k + j + 3) 2) _ hh16 hh21 ((mfr_lim (mturn_lim hl hm)).up _ (by omega)) ((rlim_int (limz_64 (by decide) (by decide)) (by omega)).up _ (by omega)) (by omega)) rfl rfl rfl rfl ?_
    rintro e w24 ⟨vv25, rfl, hh26, bb⟩
    refine ⟨_, rfl, ?_⟩
    intro a hF
    replace o4 := o4.below bb
    replace bel := below_to bel bb
    clear bb
    obtain ⟨b27, ad27, n27, c27, ae27, m27, d27, rfl, hn27, hd27⟩ := Rq.shape hh26
    have hf28 := Wc.abs hn27
    obtain ⟨w29, hr, tu, on⟩ := st_Rat (vs := [.bool b27, .slice ad27 n27 c27, .slice ae27 m27 d27]) o4 rfl rfl (ocB (ocS (ocS oc0))) (niB (niS (niS ni0))) (o := 0) rfl
    have kp := tu.keep o4
    refine E.st hF (r_store (hF.at 9 rfl) (hF.at 0 rfl) (hr _ rfl)) rfl rfl fun a hF => ?_
    clear hr
    replace hh26 := hh26.keep kp
    replace hn27 := hn27.keep kp
    replace hf28 := hf28.keep kp
    replace hd27 := hd27.keep kp
    replace bel := tu.below bel ge4
    clear tu kp
    replace o4 := on
    clear on
    refine E.nil ?_
    refine wp_ret ?_
    refine bodyPost_ret (res_cell Tryd.results42 (hF.at 9 rfl) (ld_Rat (vs := [.bool b27, .slice ad27 n27 c27, .slice ae27 m27 d27]) o4 rfl rfl)) hF.dfr ?_
    exact ⟨_, rfl, Rq.castM hh26 (mof_yes h0), bel⟩

set_option maxHeartbeats 1000000 in
theorem mSun_any (v1 : Value) (qt : Rat) (k : Nat) (w : World) (h1 : Rq w v1 qt) (hl : RLim qt k) (hk : k ≤ 400) :
    Calls Tryd.prog 21 #[v1] w (RqPost w (mof qt pyr)) := by
  have bel : Below w.heap.size w w := Below.refl _ _
  refine E.enter (nt := 6) (L := [(0, v1)]) Tryd.func21 rfl rfl rfl (args_cons (i := 0) rfl args_nil) ?_
  intro a hF
  refine wp_seq ?_
  refine E.seq ?_
  obtain ⟨b1, ad1, n1, c1, ae1, m1, d1, rfl, hn1, hd1⟩ := Rq.shape h1
  have hf2 := Wc.abs hn1
  obtain ⟨g1, w3, ge1, hr, bb, o1⟩ := own_box (P := Tryd.prog) (w := w) (cs := [.bool b1, .slice ad1 n1 c1, .slice ae1 m1 d1]) (v := .agg #[.bool b1, .slice ad1 n1 c1, .slice ae1 m1 d1]) 32 rfl (niB (niS (niS ni0)))
  replace ge1 : w.heap.size ≤ g1 := by rw [← ge1]; exact bel.size
  refine E.opv hF (r_box (hF.at 0 rfl) hr) rfl rfl rfl rfl fun a hF => ?_
  clear hr
  replace h1 := h1.below bb
  replace hn1 := hn1.below bb
  replace hf2 := hf2.below bb
  replace hd1 := hd1.below bb
  replace bel := below_to bel bb
  clear bb
  obtain ⟨g2, w4, ge2, hr, bb, o2⟩ := own_alloc (P := Tryd.prog) (w := w3) (cs := [.bool false, .slice none 0 0, .slice none 0 0]) 32 ze_Rat rfl (niB (niS (niS ni0)))
  have ne1_2 : g1 ≠ g2 := by rw [← ge2]; exact o1.ne_new
  replace ge2 : w.heap.size ≤ g2 := by rw [← ge2]; exact bel.size
  refine E.opv hF (r_alloc hr) rfl rfl rfl rfl fun a hF => ?_
  clear hr
  replace hf2 := hf2.below bb
  replace hd1 := hd1.below bb
  replace h1 := h1.below bb
  replace hn1 := hn1.below bb
  replace o1 := o1.below bb
  replace bel := below_to bel bb
  clear bb
  refine E.nil ?_
  refine wp_seq ?_
  refine E.drawn 3 mixed hF [3, 4, 5] [(fun _ v => v = .agg #[.bool b1, .slice ad1 n1 c1, .slice ae1 m1 d1]), (fun w v => Rq w v (pyr)), (fun w v => Rq w v (mof (qt) (pyr)))] [] (by decide +kernel) (by decide +kernel) rfl rfl rfl ⟨(Mb.eq _), (fun _ _ _ h hb => h.below hb), (fun _ _ _ h hb => h.below hb), trivial⟩ trivial ⟨?_, ?_, ?_, trivial⟩ ?_
  · intro a' w' hF' hb hd
    exact if_does (wanted_free rfl) (Does.vals (r_load (hF'.at 1 rfl) (ld_Rat (vs := [.bool b1, .slice ad1 n1 c1, .slice ae1 m1 d1]) (o1.below hb) rfl rfl)) ⟨rfl, Below.refl _ _, (fun h => absurd h (by decide))⟩)
  · intro a' w' hF' hb hd
    refine if_does (wanted_free rfl) (Does.calls (r_call Tryd.func32 en32.1 en32.2 map0) (mYear_any _) ?_)
    rintro e w'' ⟨v', rfl, h', bb⟩
    exact ⟨_, rfl, h', bb, (fun h => absurd h (by decide))⟩
  · intro a' w' hF' hb hd
    have e3 : a'.tmps.getD 3 undef = .agg #[.bool b1, .slice ad1 n1 c1, .slice ae1 m1 d1] := hd _ 3 (Array.mem_of_getElem? (i := 0) rfl) rfl rfl
    obtain ⟨v4_0, e4, h4_1⟩ : ∃ v, a'.tmps.getD 4 undef = v ∧ Rq w' v (pyr) := ⟨_, rfl, hd _ 4 (Array.mem_of_getElem? (i := 1) rfl) rfl rfl⟩
    refine if_does (wanted_free rfl) (Does.calls (r_call Tryd.func42 en42.1 en42.2 (map2 e3 e4)) (mOf_any _ _ (qt) (pyr) k 2 _ (h1.below hb) h4_1 hl pyr_lim (by omega) (by omega)) ?_)
    rintro e w'' ⟨v', rfl, h', bb⟩
    exact ⟨_, rfl, h', bb, (fun h => absurd h (by decide))⟩
  intro a w5 hF bb hall hne
  obtain ⟨vv6, e5, hh7⟩ : ∃ v, a.tmps.getD 5 undef = v ∧ Rq w5 v (mof (qt) (pyr)) := ⟨_, rfl, hall 2 5 rfl⟩
  clear hall hne
  replace o2 := o2.below bb
  replace bel := below_to bel bb
  clear bb
  obtain ⟨b8, ad8, n8, c8, ae8, m8, d8, rfl, hn8, hd8⟩ := Rq.shape hh7
  have hf9 := Wc.abs hn8
  replace hF := hF.add e5
  clear e5
  obtain ⟨w10, hr, tu, on⟩ := st_Rat (vs := [.bool b8, .slice ad8 n8 c8, .slice ae8 m8 d8]) o2 rfl rfl (ocB (ocS (ocS oc0))) (niB (niS (niS ni0))) (o := 0) rfl
  have kp := tu.keep o2
  refine E.st hF (r_store (hF.at 1 rfl) (hF.at 0 rfl) (hr _ rfl)) rfl rfl fun a hF => ?_
  clear hr
  replace hh7 := hh7.keep kp
  replace hn8 := hn8.keep kp
  replace hf9 := hf9.keep kp
  replace hd8 := hd8.keep kp
  replace bel := tu.below bel ge2
  clear tu kp
  replace o2 := on
  clear on
  refine E.nil ?_
  refine wp_ret ?_
  refine bodyPost_ret (res_cell Tryd.results21 (hF.at 1 rfl) (ld_Rat (vs := [.bool b8, .slice ad8 n8 c8, .slice ae8 m8 d8]) o2 rfl rfl)) hF.dfr ?_
  exact ⟨_, rfl, hh7, bel⟩

set_option maxHeartbeats 1000000 in
theorem mMoon_any (v1 : Value) (qt : Rat) (k : Nat) (w : World) (h1 : Rq w v1 qt) (hl : RLim qt k) (hk : k ≤ 400) :
    Calls Tryd.prog 23 #[v1] w (RqPost w (mof qt pmo)) := by
  have bel : Below w.heap.size w w := Below.refl _ _
  refine E.enter (nt := 6) (L := [(0, v1)]) Tryd.func23 rfl rfl rfl (args_cons (i := 0) rfl args_nil) ?_
  intro a hF
  refine wp_seq ?_
  refine E.seq ?_
  obtain ⟨b1, ad1, n1, c1, ae1, m1, d1, rfl, hn1, hd1⟩ := Rq.shape h1
  have hf2 := Wc.abs hn1
  obtain ⟨g1, w3, ge1, hr, bb, o1⟩ := own_box (P := Tryd.prog) (w := w) (cs := [.bool b1, .slice ad1 n1 c1, .slice ae1 m1 d1]) (v := .agg #[.bool b1, .slice ad1 n1 c1, .slice ae1 m1 d1]) 32 rfl (niB (niS (niS ni0)))
  replace ge1 : w.heap.size ≤ g1 := by rw [← ge1]; exact bel.size
  refine E.opv hF (r_box (hF.at 0 rfl) hr) rfl rfl rfl rfl fun a hF => ?_
  clear hr
  replace h1 := h1.below bb
  replace hn1 := hn1.below bb
  replace hf2 := hf2.below bb
  replace hd1 := hd1.below bb
  replace bel := below_to bel bb
  clear bb
  obtain ⟨g2, w4, ge2, hr, bb, o2⟩ := own_alloc (P := Tryd.prog) (w := w3) (cs := [.bool false, .slice none 0 0, .slice none 0 0]) 32 ze_Rat rfl (niB (niS (niS ni0)))
  have ne1_2 : g1 ≠ g2 := by rw [← ge2]; exact o1.ne_new
  replace ge2 : w.heap.size ≤ g2 := by rw [← ge2]; exact bel.size
  refine E.opv hF (r_alloc hr) rfl rfl rfl rfl fun a hF => ?_
  clear hr
  replace hf2 := hf2.below bb
  replace hd1 := hd1.below bb
  replace h1 := h1.below bb
  replace hn1 := hn1.below bb
  replace o1 := o1.below bb
  replace bel := below_to bel bb
  clear bb
  refine E.nil ?_
  refine wp_seq ?_
  refine E.drawn 3 mixed hF [3, 4, 5] [(fun _ v => v = .agg #[.bool b1, .slice ad1 n1 c1, .slice ae1 m1 d1]), (fun w v => Rq w v (pmo)), (fun w v => Rq w v (mof (qt) (pmo)))] [] (by decide +kernel) (by decide +kernel) rfl rfl rfl ⟨(Mb.eq _), (fun _ _ _ h hb => h.below hb), (fun _ _ _ h hb => h.below hb), trivial⟩ trivial ⟨?_, ?_, ?_, trivial⟩ ?_
  · intro a' w' hF' hb hd
    exact if_does (wanted_free rfl) (Does.vals (r_load (hF'.at 1 rfl) (ld_Rat (vs := [.bool b1, .slice ad1 n1 c1, .slice ae1 m1 d1]) (o1.below hb) rfl rfl)) ⟨rfl, Below.refl _ _, (fun h => absurd h (by decide))⟩)
  · intro a' w' hF' hb hd
    refine if_does (wanted_free rfl) (Does.calls (r_call Tryd.func44 en44.1 en44.2 map0) (mMonth_any _) ?_)
    rintro e w'' ⟨v', rfl, h', bb⟩
    exact ⟨_, rfl, h', bb, (fun h => absurd h (by decide))⟩
  · intro a' w' hF' hb hd
    have e3 : a'.tmps.getD 3 undef = .agg #[.bool b1, .slice ad1 n1 c1, .slice ae1 m1 d1] := hd _ 3 (Array.mem_of_getElem? (i := 0) rfl) rfl rfl
    obtain ⟨v4_0, e4, h4_1⟩ : ∃ v, a'.tmps.getD 4 undef = v ∧ Rq w' v (pmo) := ⟨_, rfl, hd _ 4 (Array.mem_of_getElem? (i := 1) rfl) rfl rfl⟩
    refine if_does (wanted_free rfl) (Does.calls (r_call Tryd.func42 en42.1 en42.2 (map2 e3 e4)) (mOf_any _ _ (qt) (pmo) k 2 _ (h1.below hb) h4_1 hl pmo_lim (by omega) (by omega)) ?_)
    rintro e w'' ⟨v', rfl, h', bb⟩
    exact ⟨_, rfl, h', bb, (fun h => absurd h (by decide))⟩
  intro a w5 hF bb hall hne
  obtain ⟨vv6, e5, hh7⟩ : ∃ v, a.tmps.getD 5 undef = v ∧ Rq w5 v (mof (qt) (pmo)) := ⟨_, rfl, hall 2 5 rfl⟩
  clear hall hne
  replace o2 := o2.below bb
  replace bel := below_to bel bb
  clear bb
  obtain ⟨b8, ad8, n8, c8, ae8, m8, d8, rfl, hn8, hd8⟩ := Rq.shape hh7
  have hf9 := Wc.abs hn8
  replace hF := hF.add e5
  clear e5
  obtain ⟨w10, hr, tu, on⟩ := st_Rat (vs := [.bool b8, .slice ad8 n8 c8, .slice ae8 m8 d8]) o2 rfl rfl (ocB (ocS (ocS oc0))) (niB (niS (niS ni0))) (o := 0) rfl
  have kp := tu.keep o2
  refine E.st hF (r_store (hF.at 1 rfl) (hF.at 0 rfl) (hr _ rfl)) rfl rfl fun a hF => ?_
  clear hr
  replace hh7 := hh7.keep kp
  replace hn8 := hn8.keep kp
  replace hf9 := hf9.keep kp
  replace hd8 := hd8.keep kp
  replace bel := tu.below bel ge2
  clear tu kp
  replace o2 := on
  clear on
  refine E.nil ?_
  refine wp_ret ?_
  refine bodyPost_ret (res_cell Tryd.results23 (hF.at 1 rfl) (ld_Rat (vs := [.bool b8, .slice ad8 n8 c8, .slice ae8 m8 d8]) o2 rfl rfl)) hF.dfr ?_
  exact ⟨_, rfl, hh7, bel⟩

end Go.Proofs.YtmpdbkdijfpbbaaDoor
