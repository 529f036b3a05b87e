/- The document's longitudes. -/
import Derived.Test.YtmpdbkdijfpbbaaGreatDoorRsB
import Derived.Test.YtmpdbkdijfpbbaaGreatDoorRsS
import Derived.Test.YtmpdbkdijfpbbaaGreatDoorObA
import Derived.Test.YtmpdbkdijfpbbaaGreatDoorSh
namespace Go.Proofs.YtmpdbkdijfpbbaaGreatDoor
open Go.RowKit
set_option maxRecDepth 100000
set_option linter.unusedVariables false

theorem en40 : (Tryz.f40.name == "runtime.NumGoroutine") = false ∧ Tryz.f40.body.isNone = false := ⟨by decide +kernel, by kernel_rfl⟩
theorem en10 : (Tryz.f10.name == "runtime.NumGoroutine") = false ∧ Tryz.f10.body.isNone = false := ⟨by decide +kernel, by kernel_rfl⟩
theorem en12 : (Tryz.f12.name == "runtime.NumGoroutine") = false ∧ Tryz.f12.body.isNone = false := ⟨by decide +kernel, by kernel_rfl⟩
theorem en14 : (Tryz.f14.name == "runtime.NumGoroutine") = false ∧ Tryz.f14.body.isNone = false := ⟨by decide +kernel, by kernel_rfl⟩
theorem en60 : (Tryz.f60.name == "runtime.NumGoroutine") = false ∧ Tryz.f60.body.isNone = false := ⟨by decide +kernel, by kernel_rfl⟩
theorem en20 : (Tryz.f20.name == "runtime.NumGoroutine") = false ∧ Tryz.f20.body.isNone = false := ⟨by decide +kernel, by kernel_rfl⟩
theorem map5 {a : Act} {x1 x2 x3 x4 x5 : Operand} {u1 u2 u3 u4 u5 : Value} (h1 : a.eval x1 = u1) (h2 : a.eval x2 = u2) (h3 : a.eval x3 = u3) (h4 : a.eval x4 = u4) (h5 : a.eval x5 = u5) : #[x1, x2, x3, x4, x5].map a.eval = #[u1, u2, u3, u4, u5] := by simp [h1, h2, h3, h4, h5]
theorem pid_sun (q : Rat) : rmod (sunV q) ((360 : Int) : Rat) = sunV q := rmod_id (sunV_low q) (sunV_high q)
theorem pid_moon (q : Rat) : rmod (moonV q) ((360 : Int) : Rat) = moonV q := rmod_id (moonV_low q) (moonV_high q)
theorem pid_phase (q : Rat) : rmod (phaseV q) ((360 : Int) : Rat) = phaseV q := rmod_id (phaseV_low q) (phaseV_high q)
theorem pid_yoga (q : Rat) : rmod (sunV q + moonV q) ((360 : Int) : Rat) = yogaV q := by unfold yogaV; rw [Rat.add_comm]
theorem prt_s {x : Rat} {n : Int} (hn : 0 < n) (hn2 : n ≤ 1000) : 0 ≤ Rat.floor ((rmod x ((360 : Int) : Rat)) * (((n : Int) : Rat) / ((360 : Int) : Rat))) ∧ Rat.floor ((rmod x ((360 : Int) : Rat)) * (((n : Int) : Rat) / ((360 : Int) : Rat))) < 65536 := by
  have := prt_bd (n := n) (x := rmod x ((360 : Int) : Rat)) hn (rmod_low c360_pos) (rmod_high c360_pos)
  exact ⟨show 0 ≤ prt _ n by omega, show prt _ n < _ by omega⟩
set_option maxHeartbeats 8000000 in
theorem rAt12_any (v1 v2 v3 v4 v5 : Value) (q1 q2 q3 q4 q5 : Rat) (k i : Nat) (w : World) (h1 : Rr w v1 q1 k) (h2 : Rr w v2 q2 12) (h3 : Rr w v3 q3 12) (h4 : Rr w v4 q4 12) (h5 : Rr w v5 q5 12) (li1 : RLim q1 i) (li2 : RLim q2 2) (li3 : RLim q3 2) (li4 : RLim q4 2) (li5 : RLim q5 2) (hp : 1 ≤ k) (hk : k ≤ 10) (hi : i ≤ 10) :
    Calls Tryz.prog 40 #[v1, v2, v3, v4, v5] w (RrPost w (atv q1 q2 q3 q4 q5) (3 * k + 8 * i + 400)) := by
  obtain ⟨b1, ad1, n1, c1, ae1, m1, d1, z1, D1, rfl, hn1, hd1, hD1, hq1, lz1, lD1⟩ := h1.shape
  have h1 : Rr w (.agg #[.bool b1, .slice ad1 n1 c1, .slice ae1 m1 d1]) q1 k := ⟨_, _, _, _, _, _, _, _, _, rfl, hn1, hd1, hD1, hq1, lz1, lD1⟩
  have ha1 := hn1.abs
  have hb1 := hn1.neg
  replace hq1 := Lib.hid hq1
  obtain ⟨b2, ad2, n2, c2, ae2, m2, d2, z2, D2, rfl, hn2, hd2, hD2, hq2, lz2, lD2⟩ := h2.shape
  have h2 : Rr w (.agg #[.bool b2, .slice ad2 n2 c2, .slice ae2 m2 d2]) q2 12 := ⟨_, _, _, _, _, _, _, _, _, rfl, hn2, hd2, hD2, hq2, lz2, lD2⟩
  have ha2 := hn2.abs
  have hb2 := hn2.neg
  replace hq2 := Lib.hid hq2
  obtain ⟨b3, ad3, n3, c3, ae3, m3, d3, z3, D3, rfl, hn3, hd3, hD3, hq3, lz3, lD3⟩ := h3.shape
  have h3 : Rr w (.agg #[.bool b3, .slice ad3 n3 c3, .slice ae3 m3 d3]) q3 12 := ⟨_, _, _, _, _, _, _, _, _, rfl, hn3, hd3, hD3, hq3, lz3, lD3⟩
  have ha3 := hn3.abs
  have hb3 := hn3.neg
  replace hq3 := Lib.hid hq3
  obtain ⟨b4, ad4, n4, c4, ae4, m4, d4, z4, D4, rfl, hn4, hd4, hD4, hq4, lz4, lD4⟩ := h4.shape
  have h4 : Rr w (.agg #[.bool b4, .slice ad4 n4 c4, .slice ae4 m4 d4]) q4 12 := ⟨_, _, _, _, _, _, _, _, _, rfl, hn4, hd4, hD4, hq4, lz4, lD4⟩
  have ha4 := hn4.abs
  have hb4 := hn4.neg
  replace hq4 := Lib.hid hq4
  obtain ⟨b5, ad5, n5, c5, ae5, m5, d5, z5, D5, rfl, hn5, hd5, hD5, hq5, lz5, lD5⟩ := h5.shape
  have h5 : Rr w (.agg #[.bool b5, .slice ad5 n5 c5, .slice ae5 m5 d5]) q5 12 := ⟨_, _, _, _, _, _, _, _, _, rfl, hn5, hd5, hD5, hq5, lz5, lD5⟩
  have ha5 := hn5.abs
  have hb5 := hn5.neg
  replace hq5 := Lib.hid hq5
  have bel : Below w.heap.size w w := Below.refl _ _
  refine E.enter (nt := 37) (L := [(0, .agg #[.bool b1, .slice ad1 n1 c1, .slice ae1 m1 d1]), (1, .agg #[.bool b2, .slice ad2 n2 c2, .slice ae2 m2 d2]), (2, .agg #[.bool b3, .slice ad3 n3 c3, .slice ae3 m3 d3]), (3, .agg #[.bool b4, .slice ad4 n4 c4, .slice ae4 m4 d4]), (4, .agg #[.bool b5, .slice ad5 n5 c5, .slice ae5 m5 d5])]) Tryz.func40 rfl rfl rfl (args_cons (i := 0) rfl (args_cons (i := 1) rfl (args_cons (i := 2) rfl (args_cons (i := 3) rfl (args_cons (i := 4) rfl args_nil))))) ?_
  intro a hF
  refine wp_seq ?_
  refine E.seq ?_
  obtain ⟨g5, w1, ge5, hr, bb, o5⟩ := own_box (P := Tryz.prog) (w := w) (cs := [.bool b1, .slice ad1 n1 c1, .slice ae1 m1 d1]) (v := .agg #[.bool b1, .slice ad1 n1 c1, .slice ae1 m1 d1]) 39 rfl (niB (niS (niS ni0)))
  replace ge5 : w.heap.size ≤ g5 := by rw [← ge5]; exact bel.size
  refine E.opv hF (r_box (hF.at 0 rfl) hr) rfl rfl rfl rfl fun a hF => ?_
  clear hr
  replace bel := below_to bel bb
  clear bb
  obtain ⟨g6, w2, ge6, hr, bb, o6⟩ := own_box (P := Tryz.prog) (w := w1) (cs := [.bool b2, .slice ad2 n2 c2, .slice ae2 m2 d2]) (v := .agg #[.bool b2, .slice ad2 n2 c2, .slice ae2 m2 d2]) 39 rfl (niB (niS (niS ni0)))
  have ne5_6 : g5 ≠ g6 := by rw [← ge6]; exact o5.ne_new
  replace ge6 : w.heap.size ≤ g6 := by rw [← ge6]; exact bel.size
  refine E.opv hF (r_box (hF.at 2 rfl) hr) rfl rfl rfl rfl fun a hF => ?_
  clear hr
  replace o5 := o5.below bb
  replace bel := below_to bel bb
  clear bb
  obtain ⟨g7, w3, ge7, hr, bb, o7⟩ := own_box (P := Tryz.prog) (w := w2) (cs := [.bool b3, .slice ad3 n3 c3, .slice ae3 m3 d3]) (v := .agg #[.bool b3, .slice ad3 n3 c3, .slice ae3 m3 d3]) 39 rfl (niB (niS (niS ni0)))
  have ne5_7 : g5 ≠ g7 := by rw [← ge7]; exact o5.ne_new
  have ne6_7 : g6 ≠ g7 := by rw [← ge7]; exact o6.ne_new
  replace ge7 : w.heap.size ≤ g7 := by rw [← ge7]; exact bel.size
  refine E.opv hF (r_box (hF.at 4 rfl) hr) rfl rfl rfl rfl fun a hF => ?_
  clear hr
  replace o5 := o5.below bb
  replace o6 := o6.below bb
  replace bel := below_to bel bb
  clear bb
  obtain ⟨g8, w4, ge8, hr, bb, o8⟩ := own_box (P := Tryz.prog) (w := w3) (cs := [.bool b4, .slice ad4 n4 c4, .slice ae4 m4 d4]) (v := .agg #[.bool b4, .slice ad4 n4 c4, .slice ae4 m4 d4]) 39 rfl (niB (niS (niS ni0)))
  have ne5_8 : g5 ≠ g8 := by rw [← ge8]; exact o5.ne_new
  have ne6_8 : g6 ≠ g8 := by rw [← ge8]; exact o6.ne_new
  have ne7_8 : g7 ≠ g8 := by rw [← ge8]; exact o7.ne_new
  replace ge8 : w.heap.size ≤ g8 := by rw [← ge8]; exact bel.size
  refine E.opv hF (r_box (hF.at 6 rfl) hr) rfl rfl rfl rfl fun a hF => ?_
  clear hr
  replace o5 := o5.below bb
  replace o6 := o6.below bb
  replace o7 := o7.below bb
  replace bel := below_to bel bb
  clear bb
  obtain ⟨g9, w5, ge9, hr, bb, o9⟩ := own_box (P := Tryz.prog) (w := w4) (cs := [.bool b5, .slice ad5 n5 c5, .slice ae5 m5 d5]) (v := .agg #[.bool b5, .slice ad5 n5 c5, .slice ae5 m5 d5]) 39 rfl (niB (niS (niS ni0)))
  have ne5_9 : g5 ≠ g9 := by rw [← ge9]; exact o5.ne_new
  have ne6_9 : g6 ≠ g9 := by rw [← ge9]; exact o6.ne_new
  have ne7_9 : g7 ≠ g9 := by rw [← ge9]; exact o7.ne_new
  have ne8_9 : g8 ≠ g9 := by rw [← ge9]; exact o8.ne_new
  replace ge9 : w.heap.size ≤ g9 := by rw [← ge9]; exact bel.size
  refine E.opv hF (r_box (hF.at 8 rfl) hr) rfl rfl rfl rfl fun a hF => ?_
  clear hr
  replace o5 := o5.below bb
  replace o6 := o6.below bb
  replace o7 := o7.below bb
  replace o8 := o8.below bb
  replace bel := below_to bel bb
  clear bb
  obtain ⟨g10, w6, ge10, hr, bb, o10⟩ := own_alloc (P := Tryz.prog) (w := w5) (cs := [.bool false, .slice none 0 0, .slice none 0 0]) 39 ze_RRat rfl (niB (niS (niS ni0)))
  have ne5_10 : g5 ≠ g10 := by rw [← ge10]; exact o5.ne_new
  have ne6_10 : g6 ≠ g10 := by rw [← ge10]; exact o6.ne_new
  have ne7_10 : g7 ≠ g10 := by rw [← ge10]; exact o7.ne_new
  have ne8_10 : g8 ≠ g10 := by rw [← ge10]; exact o8.ne_new
  have ne9_10 : g9 ≠ g10 := by rw [← ge10]; exact o9.ne_new
  replace ge10 : w.heap.size ≤ g10 := by rw [← ge10]; exact bel.size
  refine E.opv hF (r_alloc hr) rfl rfl rfl rfl fun a hF => ?_
  clear hr
  replace o5 := o5.below bb
  replace o6 := o6.below bb
  replace o7 := o7.below bb
  replace o8 := o8.below bb
  replace o9 := o9.below bb
  replace bel := below_to bel bb
  clear bb
  refine E.nil ?_
  refine wp_seq ?_
  refine E.seq ?_
  refine E.opv hF (r_load (hF.at 5 rfl) (ld_RRat (vs := [.bool b1, .slice ad1 n1 c1, .slice ae1 m1 d1]) o5 rfl rfl)) rfl rfl rfl rfl fun a hF => ?_
  refine E.opv hF (r_load (hF.at 4 rfl) (ld_RRat (vs := [.bool b3, .slice ad3 n3 c3, .slice ae3 m3 d3]) o7 rfl rfl)) rfl rfl rfl rfl fun a hF => ?_
  refine E.call hF (r_call Tryz.func82 en82.1 en82.2 (map2 (hF.at 1 rfl) (hF.at 0 rfl))) (rMof_any _ _ (q1) (q3) k 12 i 2 _ (h1.below bel) (h3.below bel) li1 li3 (by omega) (by omega) (by omega) (by omega) (by omega) (by omega)) rfl rfl rfl rfl ?_
  rintro e w7 ⟨vv8, rfl, hh9, bb⟩
  refine ⟨_, rfl, ?_⟩
  intro a hF
  replace o5 := o5.below bb
  replace o6 := o6.below bb
  replace o8 := o8.below bb
  replace o9 := o9.below bb
  replace o10 := o10.below bb
  replace bel := below_to bel bb
  clear bb
  obtain ⟨b10, ad10, n10, c10, ae10, m10, d10, z10, D10, rfl, hn10, hd10, hD10, hq10, lz10, lD10⟩ := Rr.shape hh9
  have ha10 := hn10.abs
  refine E.call hF (r_call Tryz.func81 en81.1 en81.2 (map1 (hF.at 0 rfl))) (rsof2_any _ _ (k + 12 + i + 2 + 30) (i + 2 + 5) _ hh9 (mof_lim li1 li3) (by omega) (by omega) (by omega)) rfl rfl rfl rfl ?_
  rintro e w11 ⟨vv12, rfl, hh13, bb⟩
  refine ⟨_, rfl, ?_⟩
  intro a hF
  replace o5 := o5.below bb
  replace o6 := o6.below bb
  replace o8 := o8.below bb
  replace o9 := o9.below bb
  replace o10 := o10.below bb
  replace bel := below_to bel bb
  clear bb
  obtain ⟨b14, ad14, n14, c14, ae14, m14, d14, z14, D14, rfl, hn14, hd14, hD14, hq14, lz14, lD14⟩ := Rr.shape hh13
  have ha14 := hn14.abs
  obtain ⟨g11, w15, ge11, hr, bb, o11⟩ := own_alloc (P := Tryz.prog) (w := w11) (cs := [.bool false, .slice none 0 0, .slice none 0 0]) 39 ze_RRat rfl (niB (niS (niS ni0)))
  have ne5_11 : g5 ≠ g11 := by rw [← ge11]; exact o5.ne_new
  have ne6_11 : g6 ≠ g11 := by rw [← ge11]; exact o6.ne_new
  have ne8_11 : g8 ≠ g11 := by rw [← ge11]; exact o8.ne_new
  have ne9_11 : g9 ≠ g11 := by rw [← ge11]; exact o9.ne_new
  have ne10_11 : g10 ≠ g11 := by rw [← ge11]; exact o10.ne_new
  replace ge11 : w.heap.size ≤ g11 := by rw [← ge11]; exact bel.size
  refine E.opv hF (r_alloc hr) rfl rfl rfl rfl fun a hF => ?_
  clear hr
  replace hh13 := hh13.below bb
  replace hn14 := hn14.below bb
  replace ha14 := ha14.below bb
  replace hd14 := hd14.below bb
  replace o5 := o5.below bb
  replace o6 := o6.below bb
  replace o8 := o8.below bb
  replace o9 := o9.below bb
  replace o10 := o10.below bb
  replace bel := below_to bel bb
  clear bb
  obtain ⟨w16, hr, tu, on⟩ := st_RRat (vs := [.bool b14, .slice ad14 n14 c14, .slice ae14 m14 d14]) o11 rfl rfl (ocB (ocS (ocS oc0))) (niB (niS (niS ni0))) (o := 0) rfl
  have kp := tu.keep o11
  refine E.st hF (r_store (hF.at 0 rfl) (hF.at 1 rfl) (hr _ rfl)) rfl rfl fun a hF => ?_
  clear hr
  replace hh13 := hh13.keep kp
  replace hn14 := hn14.keep kp
  replace ha14 := ha14.keep kp
  replace hd14 := hd14.keep kp
  replace o5 := tu.own o5 ne5_11
  replace o6 := tu.own o6 ne6_11
  replace o8 := tu.own o8 ne8_11
  replace o9 := tu.own o9 ne9_11
  replace o10 := tu.own o10 ne10_11
  replace bel := tu.below bel ge11
  clear tu kp
  replace o11 := on
  clear on
  refine E.nil ?_
  refine wp_seq ?_
  refine E.drawn 7 mixed hF [18, 19, 20, 21, 22, 23, 12] [(fun _ v => v = .agg #[.bool b14, .slice ad14 n14 c14, .slice ae14 m14 d14]), (fun w v => Rr w v (Rat.abs (sof (mof (q1) (q3)))) (((k + 12 + i + 2 + 30) + (i + 2 + 5) + 40))), (fun _ v => v = .agg #[.bool b5, .slice ad5 n5 c5, .slice ae5 m5 d5]), (fun w v => Rr w v ((Rat.abs (sof (mof (q1) (q3)))) * (q5)) ((((k + 12 + i + 2 + 30) + (i + 2 + 5) + 40) + 12))), (fun _ v => v = .agg #[.bool b4, .slice ad4 n4 c4, .slice ae4 m4 d4]), (fun w v => Rr w v (((Rat.abs (sof (mof (q1) (q3)))) * (q5)) * (q4)) (((((k + 12 + i + 2 + 30) + (i + 2 + 5) + 40) + 12) + 12))), (fun w v => ∃ g, v = .pointer (some ⟨g, 0, none⟩) ∧ w16.heap.size ≤ g ∧ Own w g [.bool false, .slice none 0 0, .slice none 0 0])] [6] (by decide +kernel) (by decide +kernel) rfl rfl rfl ⟨(Mb.eq _), (fun _ _ _ h hb => h.below hb), (Mb.eq _), (fun _ _ _ h hb => h.below hb), (Mb.eq _), (fun _ _ _ h hb => h.below hb), (fun _ _ _ ⟨g, e, l, o⟩ hb => ⟨g, e, l, o.below hb⟩), trivial⟩ ⟨fun _ _ ⟨g, e, _, o⟩ => ⟨g, e, o.lt⟩, trivial⟩ ⟨?_, ?_, ?_, ?_, ?_, ?_, ?_, trivial⟩ ?_
  · intro a' w' hF' hb hd
    exact dv0 (r_load (hF'.at 0 rfl) (ld_RRat (vs := [.bool b14, .slice ad14 n14 c14, .slice ae14 m14 d14]) (o11.below hb) rfl rfl)) rfl rfl rfl
  · intro a' w' hF' hb hd
    have e18 := sHe hd 0 18 rfl rfl rfl rfl
    exact dc0 (r_call Tryz.func84 en84.1 en84.2 (map1 e18)) (dAbs_any _ _ ((k + 12 + i + 2 + 30) + (i + 2 + 5) + 40) _ (hh13.below hb)) rfl rfl
  · intro a' w' hF' hb hd
    exact dv0 (r_load (hF'.at 6 rfl) (ld_RRat (vs := [.bool b5, .slice ad5 n5 c5, .slice ae5 m5 d5]) (o9.below hb) rfl rfl)) rfl rfl rfl
  · intro a' w' hF' hb hd
    obtain ⟨v19_0, e19, h19_1⟩ := sH hd 0 19 rfl rfl rfl rfl
    have e20 := sHe hd 1 20 rfl rfl rfl rfl
    exact dc0 (r_call Tryz.func83 en83.1 en83.2 (map2 e19 e20)) (dMul2_any _ _ _ (q5) ((k + 12 + i + 2 + 30) + (i + 2 + 5) + 40) 12 _ h19_1 (h5.below (below_to bel hb)) (by omega) (by omega) (by omega) (by omega)) rfl rfl
  · intro a' w' hF' hb hd
    exact dv0 (r_load (hF'.at 7 rfl) (ld_RRat (vs := [.bool b4, .slice ad4 n4 c4, .slice ae4 m4 d4]) (o8.below hb) rfl rfl)) rfl rfl rfl
  · intro a' w' hF' hb hd
    obtain ⟨v21_0, e21, h21_1⟩ := sH hd 0 21 rfl rfl rfl rfl
    have e22 := sHe hd 1 22 rfl rfl rfl rfl
    exact dc0 (r_call Tryz.func83 en83.1 en83.2 (map2 e21 e22)) (dMul2_any _ _ _ (q4) (((k + 12 + i + 2 + 30) + (i + 2 + 5) + 40) + 12) 12 _ h21_1 (h4.below (below_to bel hb)) (by omega) (by omega) (by omega) (by omega)) rfl rfl
  · intro a' w' hF' hb hd
    obtain ⟨g, w2, ge, hr, bb, on⟩ := own_alloc (P := Tryz.prog) (w := w') (cs := [.bool false, .slice none 0 0, .slice none 0 0]) 39 ze_RRat rfl (niB (niS (niS ni0)))
    subst ge
    exact if_does (wanted_free rfl) (Does.vals (r_alloc hr) ⟨⟨_, rfl, hb.size, on⟩, bb, fun _ => rfl⟩)
  intro a w17 hF bb hall hne
  obtain ⟨vv18, e23, hh19⟩ := sS hall 5 23 rfl rfl
  obtain ⟨g12, e12, ge12, o12⟩ : ∃ g, a.tmps.getD 12 undef = .pointer (some ⟨g, 0, none⟩) ∧ w16.heap.size ≤ g ∧ Own w17 g [.bool false, .slice none 0 0, .slice none 0 0] := hall 6 12 rfl
  have ne5_12 : g5 ≠ g12 := Nat.ne_of_lt (Nat.lt_of_lt_of_le o5.lt ge12)
  have ne6_12 : g6 ≠ g12 := Nat.ne_of_lt (Nat.lt_of_lt_of_le o6.lt ge12)
  have ne8_12 : g8 ≠ g12 := Nat.ne_of_lt (Nat.lt_of_lt_of_le o8.lt ge12)
  have ne10_12 : g10 ≠ g12 := Nat.ne_of_lt (Nat.lt_of_lt_of_le o10.lt ge12)
  have ne11_12 : g11 ≠ g12 := Nat.ne_of_lt (Nat.lt_of_lt_of_le o11.lt ge12)
  replace ge12 : w.heap.size ≤ g12 := Nat.le_trans bel.size ge12
  clear hall hne
  replace ha14 := ha14.below bb
  replace hd14 := hd14.below bb
  replace hh13 := hh13.below bb
  replace hn14 := hn14.below bb
  replace o5 := o5.below bb
  replace o6 := o6.below bb
  replace o8 := o8.below bb
  replace o10 := o10.below bb
  replace o11 := o11.below bb
  replace bel := below_to bel bb
  clear bb
  obtain ⟨b20, ad20, n20, c20, ae20, m20, d20, z20, D20, rfl, hn20, hd20, hD20, hq20, lz20, lD20⟩ := Rr.shape hh19
  have ha20 := hn20.abs
  replace hF := hF.add e23
  clear e23
  replace hF := hF.add e12
  clear e12
  obtain ⟨w21, hr, tu, on⟩ := st_RRat (vs := [.bool b20, .slice ad20 n20 c20, .slice ae20 m20 d20]) o12 rfl rfl (ocB (ocS (ocS oc0))) (niB (niS (niS ni0))) (o := 0) rfl
  have kp := tu.keep o12
  refine E.st hF (r_store (hF.at 0 rfl) (hF.at 1 rfl) (hr _ rfl)) rfl rfl fun a hF => ?_
  clear hr
  replace ha14 := ha14.keep kp
  replace hd14 := hd14.keep kp
  replace hh13 := hh13.keep kp
  replace hn14 := hn14.keep kp
  replace hh19 := hh19.keep kp
  replace hn20 := hn20.keep kp
  replace ha20 := ha20.keep kp
  replace hd20 := hd20.keep kp
  replace o5 := tu.own o5 ne5_12
  replace o6 := tu.own o6 ne6_12
  replace o8 := tu.own o8 ne8_12
  replace o10 := tu.own o10 ne10_12
  replace o11 := tu.own o11 ne11_12
  replace bel := tu.below bel ge12
  clear tu kp
  replace o12 := on
  clear on
  refine E.nil ?_
  refine wp_seq ?_
  refine E.drawn 7 mixed hF [24, 25, 26, 27, 28, 29, 13] [(fun _ v => v = .agg #[.bool b14, .slice ad14 n14 c14, .slice ae14 m14 d14]), (fun _ v => v = .agg #[.bool b4, .slice ad4 n4 c4, .slice ae4 m4 d4]), (fun _ v => v = .agg #[.bool b20, .slice ad20 n20 c20, .slice ae20 m20 d20]), (fun w v => Rr w v ((q4) - (((Rat.abs (sof (mof (q1) (q3)))) * (q5)) * (q4))) ((12 + ((((k + 12 + i + 2 + 30) + (i + 2 + 5) + 40) + 12) + 12) + 1))), (fun w v => Rr w v ((sof (mof (q1) (q3))) * ((q4) - (((Rat.abs (sof (mof (q1) (q3)))) * (q5)) * (q4)))) ((((k + 12 + i + 2 + 30) + (i + 2 + 5) + 40) + (12 + ((((k + 12 + i + 2 + 30) + (i + 2 + 5) + 40) + 12) + 12) + 1)))), (fun w v => Rr w v (arcv ((sof (mof (q1) (q3))) * ((q4) - (((Rat.abs (sof (mof (q1) (q3)))) * (q5)) * (q4))))) (((((k + 12 + i + 2 + 30) + (i + 2 + 5) + 40) + (12 + ((((k + 12 + i + 2 + 30) + (i + 2 + 5) + 40) + 12) + 12) + 1)) + 20))), (fun w v => ∃ g, v = .pointer (some ⟨g, 0, none⟩) ∧ w21.heap.size ≤ g ∧ Own w g [.bool false, .slice none 0 0, .slice none 0 0])] [6] (by decide +kernel) (by decide +kernel) rfl rfl rfl ⟨(Mb.eq _), (Mb.eq _), (Mb.eq _), (fun _ _ _ h hb => h.below hb), (fun _ _ _ h hb => h.below hb), (fun _ _ _ h hb => h.below hb), (fun _ _ _ ⟨g, e, l, o⟩ hb => ⟨g, e, l, o.below hb⟩), trivial⟩ ⟨fun _ _ ⟨g, e, _, o⟩ => ⟨g, e, o.lt⟩, trivial⟩ ⟨?_, ?_, ?_, ?_, ?_, ?_, ?_, trivial⟩ ?_
  · intro a' w' hF' hb hd
    exact dv0 (r_load (hF'.at 2 rfl) (ld_RRat (vs := [.bool b14, .slice ad14 n14 c14, .slice ae14 m14 d14]) (o11.below hb) rfl rfl)) rfl rfl rfl
  · intro a' w' hF' hb hd
    exact dv0 (r_load (hF'.at 9 rfl) (ld_RRat (vs := [.bool b4, .slice ad4 n4 c4, .slice ae4 m4 d4]) (o8.below hb) rfl rfl)) rfl rfl rfl
  · intro a' w' hF' hb hd
    exact dv0 (r_load (hF'.at 0 rfl) (ld_RRat (vs := [.bool b20, .slice ad20 n20 c20, .slice ae20 m20 d20]) (o12.below hb) rfl rfl)) rfl rfl rfl
  · intro a' w' hF' hb hd
    have e25 := sHe hd 0 25 rfl rfl rfl rfl
    have e26 := sHe hd 1 26 rfl rfl rfl rfl
    exact dc0 (r_call Tryz.func49 en49.1 en49.2 (map2 e25 e26)) (dSub2_any _ _ (q4) _ 12 ((((k + 12 + i + 2 + 30) + (i + 2 + 5) + 40) + 12) + 12) _ (h4.below (below_to bel hb)) (hh19.below hb) (by omega) (by omega) (by omega) (by omega)) rfl rfl
  · intro a' w' hF' hb hd
    have e24 := sHe hd 0 24 rfl rfl rfl rfl
    obtain ⟨v27_0, e27, h27_1⟩ := sH hd 1 27 rfl rfl rfl rfl
    exact dc0 (r_call Tryz.func83 en83.1 en83.2 (map2 e24 e27)) (dMul2_any _ _ _ ((q4) - (((Rat.abs _) * (q5)) * (q4))) ((k + 12 + i + 2 + 30) + (i + 2 + 5) + 40) (12 + ((((k + 12 + i + 2 + 30) + (i + 2 + 5) + 40) + 12) + 12) + 1) _ (hh13.below hb) h27_1 (by omega) (by omega) (by omega) (by omega)) rfl rfl
  · intro a' w' hF' hb hd
    obtain ⟨v28_0, e28, h28_1⟩ := sH hd 0 28 rfl rfl rfl rfl
    exact dc0 (r_call Tryz.func85 en85.1 en85.2 (map1 e28)) (rarc2_any _ _ (((k + 12 + i + 2 + 30) + (i + 2 + 5) + 40) + (12 + ((((k + 12 + i + 2 + 30) + (i + 2 + 5) + 40) + 12) + 12) + 1)) _ h28_1 (by omega) (by omega)) rfl rfl
  · intro a' w' hF' hb hd
    obtain ⟨g, w2, ge, hr, bb, on⟩ := own_alloc (P := Tryz.prog) (w := w') (cs := [.bool false, .slice none 0 0, .slice none 0 0]) 39 ze_RRat rfl (niB (niS (niS ni0)))
    subst ge
    exact if_does (wanted_free rfl) (Does.vals (r_alloc hr) ⟨⟨_, rfl, hb.size, on⟩, bb, fun _ => rfl⟩)
  intro a w22 hF bb hall hne
  obtain ⟨vv23, e29, hh24⟩ := sS hall 5 29 rfl rfl
  obtain ⟨g13, e13, ge13, o13⟩ : ∃ g, a.tmps.getD 13 undef = .pointer (some ⟨g, 0, none⟩) ∧ w21.heap.size ≤ g ∧ Own w22 g [.bool false, .slice none 0 0, .slice none 0 0] := hall 6 13 rfl
  have ne5_13 : g5 ≠ g13 := Nat.ne_of_lt (Nat.lt_of_lt_of_le o5.lt ge13)
  have ne6_13 : g6 ≠ g13 := Nat.ne_of_lt (Nat.lt_of_lt_of_le o6.lt ge13)
  have ne10_13 : g10 ≠ g13 := Nat.ne_of_lt (Nat.lt_of_lt_of_le o10.lt ge13)
  replace ge13 : w.heap.size ≤ g13 := Nat.le_trans bel.size ge13
  clear hall hne
  replace o5 := o5.below bb
  replace o6 := o6.below bb
  replace o10 := o10.below bb
  replace bel := below_to bel bb
  clear bb
  obtain ⟨b25, ad25, n25, c25, ae25, m25, d25, z25, D25, rfl, hn25, hd25, hD25, hq25, lz25, lD25⟩ := Rr.shape hh24
  have ha25 := hn25.abs
  replace hF := hF.add e29
  clear e29
  replace hF := hF.add e13
  clear e13
  obtain ⟨w26, hr, tu, on⟩ := st_RRat (vs := [.bool b25, .slice ad25 n25 c25, .slice ae25 m25 d25]) o13 rfl rfl (ocB (ocS (ocS oc0))) (niB (niS (niS ni0))) (o := 0) rfl
  have kp := tu.keep o13
  refine E.st hF (r_store (hF.at 0 rfl) (hF.at 1 rfl) (hr _ rfl)) rfl rfl fun a hF => ?_
  clear hr
  replace hh24 := hh24.keep kp
  replace hn25 := hn25.keep kp
  replace ha25 := ha25.keep kp
  replace hd25 := hd25.keep kp
  replace o5 := tu.own o5 ne5_13
  replace o6 := tu.own o6 ne6_13
  replace o10 := tu.own o10 ne10_13
  replace bel := tu.below bel ge13
  clear tu kp
  replace o13 := on
  clear on
  refine E.nil ?_
  refine wp_seq ?_
  refine E.drawn 7 mixed hF [30, 31, 32, 33, 34, 35, 36] [(fun _ v => v = .agg #[.bool b1, .slice ad1 n1 c1, .slice ae1 m1 d1]), (fun _ v => v = .agg #[.bool b2, .slice ad2 n2 c2, .slice ae2 m2 d2]), (fun w v => Rr w v (mof (q1) (q2)) ((k + 12 + i + 2 + 30))), (fun _ v => v = .agg #[.bool b25, .slice ad25 n25 c25, .slice ae25 m25 d25]), (fun w v => Rr w v ((mof (q1) (q2)) - (arcv ((sof (mof (q1) (q3))) * ((q4) - (((Rat.abs (sof (mof (q1) (q3)))) * (q5)) * (q4)))))) (((k + 12 + i + 2 + 30) + ((((k + 12 + i + 2 + 30) + (i + 2 + 5) + 40) + (12 + ((((k + 12 + i + 2 + 30) + (i + 2 + 5) + 40) + 12) + 12) + 1)) + 20) + 1))), (fun w v => Rr w v (((360 : Int) : Rat)) (2)), (fun w v => Rr w v (rmod ((mof (q1) (q2)) - (arcv ((sof (mof (q1) (q3))) * ((q4) - (((Rat.abs (sof (mof (q1) (q3)))) * (q5)) * (q4)))))) (((360 : Int) : Rat))) ((((k + 12 + i + 2 + 30) + ((((k + 12 + i + 2 + 30) + (i + 2 + 5) + 40) + (12 + ((((k + 12 + i + 2 + 30) + (i + 2 + 5) + 40) + 12) + 12) + 1)) + 20) + 1) + 2 + ((i + 2 + 5) + ((((i + 2 + 5) + 12) + (2 + ((((i + 2 + 5) + 12) + 2) + 2) + 1)) + 20) + 1) + 2 + 3)))] [] (by decide +kernel) (by decide +kernel) rfl rfl rfl ⟨(Mb.eq _), (Mb.eq _), (fun _ _ _ h hb => h.below hb), (Mb.eq _), (fun _ _ _ h hb => h.below hb), (fun _ _ _ h hb => h.below hb), (fun _ _ _ h hb => h.below hb), trivial⟩ trivial ⟨?_, ?_, ?_, ?_, ?_, ?_, ?_, trivial⟩ ?_
  · intro a' w' hF' hb hd
    exact dv0 (r_load (hF'.at 14 rfl) (ld_RRat (vs := [.bool b1, .slice ad1 n1 c1, .slice ae1 m1 d1]) (o5.below hb) rfl rfl)) rfl rfl rfl
  · intro a' w' hF' hb hd
    exact dv0 (r_load (hF'.at 13 rfl) (ld_RRat (vs := [.bool b2, .slice ad2 n2 c2, .slice ae2 m2 d2]) (o6.below hb) rfl rfl)) rfl rfl rfl
  · intro a' w' hF' hb hd
    have e30 := sHe hd 0 30 rfl rfl rfl rfl
    have e31 := sHe hd 1 31 rfl rfl rfl rfl
    exact dc0 (r_call Tryz.func82 en82.1 en82.2 (map2 e30 e31)) (rMof_any _ _ (q1) (q2) k 12 i 2 _ (h1.below (below_to bel hb)) (h2.below (below_to bel hb)) li1 li2 (by omega) (by omega) (by omega) (by omega) (by omega) (by omega)) rfl rfl
  · intro a' w' hF' hb hd
    exact dv0 (r_load (hF'.at 0 rfl) (ld_RRat (vs := [.bool b25, .slice ad25 n25 c25, .slice ae25 m25 d25]) (o13.below hb) rfl rfl)) rfl rfl rfl
  · intro a' w' hF' hb hd
    obtain ⟨v32_0, e32, h32_1⟩ := sH hd 0 32 rfl rfl rfl rfl
    have e33 := sHe hd 1 33 rfl rfl rfl rfl
    exact dc0 (r_call Tryz.func49 en49.1 en49.2 (map2 e32 e33)) (dSub2_any _ _ _ _ (k + 12 + i + 2 + 30) ((((k + 12 + i + 2 + 30) + (i + 2 + 5) + 40) + (12 + ((((k + 12 + i + 2 + 30) + (i + 2 + 5) + 40) + 12) + 12) + 1)) + 20) _ h32_1 (hh24.below hb) (by omega) (by omega) (by omega) (by omega)) rfl rfl
  · intro a' w' hF' hb hd
    exact dc0 (r_call Tryz.func43 en43.1 en43.2 (map2 ev_c ev_c)) (dOf1b_any (360) _ (by decide) (by decide)) rfl rfl
  · intro a' w' hF' hb hd
    obtain ⟨v34_0, e34, h34_1⟩ := sH hd 0 34 rfl rfl rfl rfl
    obtain ⟨v35_0, e35, h35_1⟩ := sH hd 1 35 rfl rfl rfl rfl
    exact dc0 (r_call Tryz.func48 en48.1 en48.2 (map2 e34 e35)) (dMod2_any _ _ _ _ ((k + 12 + i + 2 + 30) + ((((k + 12 + i + 2 + 30) + (i + 2 + 5) + 40) + (12 + ((((k + 12 + i + 2 + 30) + (i + 2 + 5) + 40) + 12) + 12) + 1)) + 20) + 1) 2 ((i + 2 + 5) + ((((i + 2 + 5) + 12) + (2 + ((((i + 2 + 5) + 12) + 2) + 2) + 1)) + 20) + 1) 2 _ h34_1 h35_1 (rlim_sub (mof_lim li1 li2) (arcv_lim (rlim_mul (sof_lim2 (mof_lim li1 li3)) (rlim_sub li4 (rlim_mul (rlim_mul (rlim_abs (sof_lim2 (mof_lim li1 li3))) li5) li4))))) (lim64 (by decide) (by decide)) (by omega) (by omega) (by omega) (by omega) (by omega) (by omega)) rfl rfl
  intro a w27 hF bb hall hne
  obtain ⟨vv28, e36, hh29⟩ := sS hall 6 36 rfl rfl
  clear hall hne
  replace o10 := o10.below bb
  replace bel := below_to bel bb
  clear bb
  obtain ⟨b30, ad30, n30, c30, ae30, m30, d30, z30, D30, rfl, hn30, hd30, hD30, hq30, lz30, lD30⟩ := Rr.shape hh29
  have ha30 := hn30.abs
  replace hF := hF.add e36
  clear e36
  obtain ⟨w31, hr, tu, on⟩ := st_RRat (vs := [.bool b30, .slice ad30 n30 c30, .slice ae30 m30 d30]) o10 rfl rfl (ocB (ocS (ocS oc0))) (niB (niS (niS ni0))) (o := 0) rfl
  have kp := tu.keep o10
  refine E.st hF (r_store (hF.at 10 rfl) (hF.at 0 rfl) (hr _ rfl)) rfl rfl fun a hF => ?_
  clear hr
  replace hh29 := hh29.keep kp
  replace hn30 := hn30.keep kp
  replace ha30 := ha30.keep kp
  replace hd30 := hd30.keep kp
  replace bel := tu.below bel ge10
  clear tu kp
  replace o10 := on
  clear on
  refine E.nil ?_
  refine wp_ret ?_
  refine bodyPost_ret (res_cell Tryz.results40 (hF.at 10 rfl) (ld_RRat (vs := [.bool b30, .slice ad30 n30 c30, .slice ae30 m30 d30]) o10 rfl rfl)) hF.dfr ?_
  exact ⟨_, rfl, Rr.cast (Rr.up hh29 _ (by omega)) rfl, bel⟩

set_option maxHeartbeats 4000000 in
theorem rSun12_any (v1 : Value) (q1 : Rat) (k i : Nat) (w : World) (h1 : Rr w v1 q1 k) (li1 : RLim q1 i) (hp : 1 ≤ k) (hk : k ≤ 3) (hi : i ≤ 3) :
    Calls Tryz.prog 10 #[v1] w (RrPost w (sunV q1) (3 * k + 8 * i + 400)) := by
  obtain ⟨b1, ad1, n1, c1, ae1, m1, d1, z1, D1, rfl, hn1, hd1, hD1, hq1, lz1, lD1⟩ := h1.shape
  have h1 : Rr w (.agg #[.bool b1, .slice ad1 n1 c1, .slice ae1 m1 d1]) q1 k := ⟨_, _, _, _, _, _, _, _, _, rfl, hn1, hd1, hD1, hq1, lz1, lD1⟩
  have ha1 := hn1.abs
  have hb1 := hn1.neg
  replace hq1 := Lib.hid hq1
  have bel : Below w.heap.size w w := Below.refl _ _
  refine E.enter (nt := 9) (L := [(0, .agg #[.bool b1, .slice ad1 n1 c1, .slice ae1 m1 d1])]) Tryz.func10 rfl rfl rfl (args_cons (i := 0) rfl args_nil) ?_
  intro a hF
  refine wp_seq ?_
  refine E.seq ?_
  obtain ⟨g1, w1, ge1, hr, bb, o1⟩ := own_box (P := Tryz.prog) (w := w) (cs := [.bool b1, .slice ad1 n1 c1, .slice ae1 m1 d1]) (v := .agg #[.bool b1, .slice ad1 n1 c1, .slice ae1 m1 d1]) 39 rfl (niB (niS (niS ni0)))
  replace ge1 : w.heap.size ≤ g1 := by rw [← ge1]; exact bel.size
  refine E.opv hF (r_box (hF.at 0 rfl) hr) rfl rfl rfl rfl fun a hF => ?_
  clear hr
  replace bel := below_to bel bb
  clear bb
  obtain ⟨g2, w2, ge2, hr, bb, o2⟩ := own_alloc (P := Tryz.prog) (w := w1) (cs := [.bool false, .slice none 0 0, .slice none 0 0]) 39 ze_RRat rfl (niB (niS (niS ni0)))
  have ne1_2 : g1 ≠ g2 := by rw [← ge2]; exact o1.ne_new
  replace ge2 : w.heap.size ≤ g2 := by rw [← ge2]; exact bel.size
  refine E.opv hF (r_alloc hr) rfl rfl rfl rfl fun a hF => ?_
  clear hr
  replace o1 := o1.below bb
  replace bel := below_to bel bb
  clear bb
  refine E.nil ?_
  refine wp_seq ?_
  refine E.drawn 6 mixed hF [3, 4, 5, 6, 7, 8] [(fun _ v => v = .agg #[.bool b1, .slice ad1 n1 c1, .slice ae1 m1 d1]), (fun w v => Rr w v (pyr) (7)), (fun w v => Rr w v (pay) (7)), (fun w v => Rr w v (((7 : Int) : Rat) / ((180 : Int) : Rat)) (2)), (fun w v => Rr w v (((1 : Int) : Rat) / ((42 : Int) : Rat)) (2)), (fun w v => Rr w v (atv (q1) (pyr) (pay) (((7 : Int) : Rat) / ((180 : Int) : Rat)) (((1 : Int) : Rat) / ((42 : Int) : Rat))) ((3 * k + 8 * i + 400)))] [] (by decide +kernel) (by decide +kernel) rfl rfl rfl ⟨(Mb.eq _), (fun _ _ _ h hb => h.below hb), (fun _ _ _ h hb => h.below hb), (fun _ _ _ h hb => h.below hb), (fun _ _ _ h hb => h.below hb), (fun _ _ _ h hb => h.below hb), trivial⟩ trivial ⟨?_, ?_, ?_, ?_, ?_, ?_, trivial⟩ ?_
  · intro a' w' hF' hb hd
    exact dv0 (r_load (hF'.at 1 rfl) (ld_RRat (vs := [.bool b1, .slice ad1 n1 c1, .slice ae1 m1 d1]) (o1.below hb) rfl rfl)) rfl rfl rfl
  · intro a' w' hF' hb hd
    exact dc0 (r_call Tryz.func41 en41.1 en41.2 map0) (rYear11_any _) rfl rfl
  · intro a' w' hF' hb hd
    exact dc0 (r_call Tryz.func42 en42.1 en42.2 map0) (rAnomalyYear11_any _) rfl rfl
  · intro a' w' hF' hb hd
    exact dc0 (r_call Tryz.func43 en43.1 en43.2 (map2 ev_c ev_c)) (dOf_any (7) (180) _ (by decide) (by decide) (by decide) (by decide)) rfl rfl
  · intro a' w' hF' hb hd
    exact dc0 (r_call Tryz.func43 en43.1 en43.2 (map2 ev_c ev_c)) (dOf_any (1) (42) _ (by decide) (by decide) (by decide) (by decide)) rfl rfl
  · intro a' w' hF' hb hd
    have e3 := sHe hd 0 3 rfl rfl rfl rfl
    obtain ⟨v4_0, e4, h4_1⟩ := sH hd 1 4 rfl rfl rfl rfl
    obtain ⟨v5_0, e5, h5_1⟩ := sH hd 2 5 rfl rfl rfl rfl
    obtain ⟨v6_0, e6, h6_1⟩ := sH hd 3 6 rfl rfl rfl rfl
    obtain ⟨v7_0, e7, h7_1⟩ := sH hd 4 7 rfl rfl rfl rfl
    exact dc0 (r_call Tryz.func40 en40.1 en40.2 (map5 e3 e4 e5 e6 e7)) (rAt12_any _ _ _ _ _ (q1) (pyr) (pay) _ _ k i _ (h1.below (below_to bel hb)) (Rr.up h4_1 12 (by omega)) (Rr.up h5_1 12 (by omega)) (Rr.up h6_1 12 (by omega)) (Rr.up h7_1 12 (by omega)) li1 pyr_lim pay_lim (RLim.up (rlim_mk2 (limz_64 (by decide) (by decide)) (limz_64 (by decide) (by decide))) 2 (by decide)) (RLim.up (rlim_mk2 (limz_64 (by decide) (by decide)) (limz_64 (by decide) (by decide))) 2 (by decide)) (by omega) (by omega) (by omega)) rfl rfl
  intro a w3 hF bb hall hne
  obtain ⟨vv4, e8, hh5⟩ := sS hall 5 8 rfl rfl
  clear hall hne
  replace o2 := o2.below bb
  replace bel := below_to bel bb
  clear bb
  obtain ⟨b6, ad6, n6, c6, ae6, m6, d6, z6, D6, rfl, hn6, hd6, hD6, hq6, lz6, lD6⟩ := Rr.shape hh5
  have ha6 := hn6.abs
  replace hF := hF.add e8
  clear e8
  obtain ⟨w7, hr, tu, on⟩ := st_RRat (vs := [.bool b6, .slice ad6 n6 c6, .slice ae6 m6 d6]) o2 rfl rfl (ocB (ocS (ocS oc0))) (niB (niS (niS ni0))) (o := 0) rfl
  have kp := tu.keep o2
  refine E.st hF (r_store (hF.at 1 rfl) (hF.at 0 rfl) (hr _ rfl)) rfl rfl fun a hF => ?_
  clear hr
  replace hh5 := hh5.keep kp
  replace hn6 := hn6.keep kp
  replace ha6 := ha6.keep kp
  replace hd6 := hd6.keep kp
  replace bel := tu.below bel ge2
  clear tu kp
  replace o2 := on
  clear on
  refine E.nil ?_
  refine wp_ret ?_
  refine bodyPost_ret (res_cell Tryz.results10 (hF.at 1 rfl) (ld_RRat (vs := [.bool b6, .slice ad6 n6 c6, .slice ae6 m6 d6]) o2 rfl rfl)) hF.dfr ?_
  exact ⟨_, rfl, Rr.cast (Rr.up hh5 _ (by omega)) (by rw [show ((7 : Int) : Rat) / ((180 : Int) : Rat) = ssz by decide +kernel]; rfl), bel⟩

set_option maxHeartbeats 4000000 in
theorem rMoon12_any (v1 : Value) (q1 : Rat) (k i : Nat) (w : World) (h1 : Rr w v1 q1 k) (li1 : RLim q1 i) (hp : 1 ≤ k) (hk : k ≤ 3) (hi : i ≤ 3) :
    Calls Tryz.prog 12 #[v1] w (RrPost w (moonV q1) (3 * k + 8 * i + 400)) := by
  obtain ⟨b1, ad1, n1, c1, ae1, m1, d1, z1, D1, rfl, hn1, hd1, hD1, hq1, lz1, lD1⟩ := h1.shape
  have h1 : Rr w (.agg #[.bool b1, .slice ad1 n1 c1, .slice ae1 m1 d1]) q1 k := ⟨_, _, _, _, _, _, _, _, _, rfl, hn1, hd1, hD1, hq1, lz1, lD1⟩
  have ha1 := hn1.abs
  have hb1 := hn1.neg
  replace hq1 := Lib.hid hq1
  have bel : Below w.heap.size w w := Below.refl _ _
  refine E.enter (nt := 9) (L := [(0, .agg #[.bool b1, .slice ad1 n1 c1, .slice ae1 m1 d1])]) Tryz.func12 rfl rfl rfl (args_cons (i := 0) rfl args_nil) ?_
  intro a hF
  refine wp_seq ?_
  refine E.seq ?_
  obtain ⟨g1, w1, ge1, hr, bb, o1⟩ := own_box (P := Tryz.prog) (w := w) (cs := [.bool b1, .slice ad1 n1 c1, .slice ae1 m1 d1]) (v := .agg #[.bool b1, .slice ad1 n1 c1, .slice ae1 m1 d1]) 39 rfl (niB (niS (niS ni0)))
  replace ge1 : w.heap.size ≤ g1 := by rw [← ge1]; exact bel.size
  refine E.opv hF (r_box (hF.at 0 rfl) hr) rfl rfl rfl rfl fun a hF => ?_
  clear hr
  replace bel := below_to bel bb
  clear bb
  obtain ⟨g2, w2, ge2, hr, bb, o2⟩ := own_alloc (P := Tryz.prog) (w := w1) (cs := [.bool false, .slice none 0 0, .slice none 0 0]) 39 ze_RRat rfl (niB (niS (niS ni0)))
  have ne1_2 : g1 ≠ g2 := by rw [← ge2]; exact o1.ne_new
  replace ge2 : w.heap.size ≤ g2 := by rw [← ge2]; exact bel.size
  refine E.opv hF (r_alloc hr) rfl rfl rfl rfl fun a hF => ?_
  clear hr
  replace o1 := o1.below bb
  replace bel := below_to bel bb
  clear bb
  refine E.nil ?_
  refine wp_seq ?_
  refine E.drawn 6 mixed hF [3, 4, 5, 6, 7, 8] [(fun _ v => v = .agg #[.bool b1, .slice ad1 n1 c1, .slice ae1 m1 d1]), (fun w v => Rr w v (pmo) (7)), (fun w v => Rr w v (pam) (7)), (fun w v => Rr w v (((4 : Int) : Rat) / ((45 : Int) : Rat)) (2)), (fun w v => Rr w v (((1 : Int) : Rat) / ((96 : Int) : Rat)) (2)), (fun w v => Rr w v (atv (q1) (pmo) (pam) (((4 : Int) : Rat) / ((45 : Int) : Rat)) (((1 : Int) : Rat) / ((96 : Int) : Rat))) ((3 * k + 8 * i + 400)))] [] (by decide +kernel) (by decide +kernel) rfl rfl rfl ⟨(Mb.eq _), (fun _ _ _ h hb => h.below hb), (fun _ _ _ h hb => h.below hb), (fun _ _ _ h hb => h.below hb), (fun _ _ _ h hb => h.below hb), (fun _ _ _ h hb => h.below hb), trivial⟩ trivial ⟨?_, ?_, ?_, ?_, ?_, ?_, trivial⟩ ?_
  · intro a' w' hF' hb hd
    exact dv0 (r_load (hF'.at 1 rfl) (ld_RRat (vs := [.bool b1, .slice ad1 n1 c1, .slice ae1 m1 d1]) (o1.below hb) rfl rfl)) rfl rfl rfl
  · intro a' w' hF' hb hd
    exact dc0 (r_call Tryz.func44 en44.1 en44.2 map0) (rMonth11_any _) rfl rfl
  · intro a' w' hF' hb hd
    exact dc0 (r_call Tryz.func45 en45.1 en45.2 map0) (rAnomalyMonth11_any _) rfl rfl
  · intro a' w' hF' hb hd
    exact dc0 (r_call Tryz.func43 en43.1 en43.2 (map2 ev_c ev_c)) (dOf_any (4) (45) _ (by decide) (by decide) (by decide) (by decide)) rfl rfl
  · intro a' w' hF' hb hd
    exact dc0 (r_call Tryz.func43 en43.1 en43.2 (map2 ev_c ev_c)) (dOf_any (1) (96) _ (by decide) (by decide) (by decide) (by decide)) rfl rfl
  · intro a' w' hF' hb hd
    have e3 := sHe hd 0 3 rfl rfl rfl rfl
    obtain ⟨v4_0, e4, h4_1⟩ := sH hd 1 4 rfl rfl rfl rfl
    obtain ⟨v5_0, e5, h5_1⟩ := sH hd 2 5 rfl rfl rfl rfl
    obtain ⟨v6_0, e6, h6_1⟩ := sH hd 3 6 rfl rfl rfl rfl
    obtain ⟨v7_0, e7, h7_1⟩ := sH hd 4 7 rfl rfl rfl rfl
    exact dc0 (r_call Tryz.func40 en40.1 en40.2 (map5 e3 e4 e5 e6 e7)) (rAt12_any _ _ _ _ _ (q1) (pmo) (pam) _ _ k i _ (h1.below (below_to bel hb)) (Rr.up h4_1 12 (by omega)) (Rr.up h5_1 12 (by omega)) (Rr.up h6_1 12 (by omega)) (Rr.up h7_1 12 (by omega)) li1 pmo_lim pam_lim (RLim.up (rlim_mk2 (limz_64 (by decide) (by decide)) (limz_64 (by decide) (by decide))) 2 (by decide)) (RLim.up (rlim_mk2 (limz_64 (by decide) (by decide)) (limz_64 (by decide) (by decide))) 2 (by decide)) (by omega) (by omega) (by omega)) rfl rfl
  intro a w3 hF bb hall hne
  obtain ⟨vv4, e8, hh5⟩ := sS hall 5 8 rfl rfl
  clear hall hne
  replace o2 := o2.below bb
  replace bel := below_to bel bb
  clear bb
  obtain ⟨b6, ad6, n6, c6, ae6, m6, d6, z6, D6, rfl, hn6, hd6, hD6, hq6, lz6, lD6⟩ := Rr.shape hh5
  have ha6 := hn6.abs
  replace hF := hF.add e8
  clear e8
  obtain ⟨w7, hr, tu, on⟩ := st_RRat (vs := [.bool b6, .slice ad6 n6 c6, .slice ae6 m6 d6]) o2 rfl rfl (ocB (ocS (ocS oc0))) (niB (niS (niS ni0))) (o := 0) rfl
  have kp := tu.keep o2
  refine E.st hF (r_store (hF.at 1 rfl) (hF.at 0 rfl) (hr _ rfl)) rfl rfl fun a hF => ?_
  clear hr
  replace hh5 := hh5.keep kp
  replace hn6 := hn6.keep kp
  replace ha6 := ha6.keep kp
  replace hd6 := hd6.keep kp
  replace bel := tu.below bel ge2
  clear tu kp
  replace o2 := on
  clear on
  refine E.nil ?_
  refine wp_ret ?_
  refine bodyPost_ret (res_cell Tryz.results12 (hF.at 1 rfl) (ld_RRat (vs := [.bool b6, .slice ad6 n6 c6, .slice ae6 m6 d6]) o2 rfl rfl)) hF.dfr ?_
  exact ⟨_, rfl, Rr.cast (Rr.up hh5 _ (by omega)) (by rw [show ((4 : Int) : Rat) / ((45 : Int) : Rat) = msz by decide +kernel]; rfl), bel⟩

set_option maxHeartbeats 4000000 in
theorem rPhase12_any (v1 : Value) (q1 : Rat) (k i : Nat) (w : World) (h1 : Rr w v1 q1 k) (li1 : RLim q1 i) (hp : 1 ≤ k) (hk : k ≤ 3) (hi : i ≤ 3) :
    Calls Tryz.prog 14 #[v1] w (RrPost w (phaseV q1) (6 * k + 22 * i + 1100)) := by
  obtain ⟨b1, ad1, n1, c1, ae1, m1, d1, z1, D1, rfl, hn1, hd1, hD1, hq1, lz1, lD1⟩ := h1.shape
  have h1 : Rr w (.agg #[.bool b1, .slice ad1 n1 c1, .slice ae1 m1 d1]) q1 k := ⟨_, _, _, _, _, _, _, _, _, rfl, hn1, hd1, hD1, hq1, lz1, lD1⟩
  have ha1 := hn1.abs
  have hb1 := hn1.neg
  replace hq1 := Lib.hid hq1
  have bel : Below w.heap.size w w := Below.refl _ _
  refine E.enter (nt := 10) (L := [(0, .agg #[.bool b1, .slice ad1 n1 c1, .slice ae1 m1 d1])]) Tryz.func14 rfl rfl rfl (args_cons (i := 0) rfl args_nil) ?_
  intro a hF
  refine wp_seq ?_
  refine E.seq ?_
  obtain ⟨g1, w1, ge1, hr, bb, o1⟩ := own_box (P := Tryz.prog) (w := w) (cs := [.bool b1, .slice ad1 n1 c1, .slice ae1 m1 d1]) (v := .agg #[.bool b1, .slice ad1 n1 c1, .slice ae1 m1 d1]) 39 rfl (niB (niS (niS ni0)))
  replace ge1 : w.heap.size ≤ g1 := by rw [← ge1]; exact bel.size
  refine E.opv hF (r_box (hF.at 0 rfl) hr) rfl rfl rfl rfl fun a hF => ?_
  clear hr
  replace bel := below_to bel bb
  clear bb
  obtain ⟨g2, w2, ge2, hr, bb, o2⟩ := own_alloc (P := Tryz.prog) (w := w1) (cs := [.bool false, .slice none 0 0, .slice none 0 0]) 39 ze_RRat rfl (niB (niS (niS ni0)))
  have ne1_2 : g1 ≠ g2 := by rw [← ge2]; exact o1.ne_new
  replace ge2 : w.heap.size ≤ g2 := by rw [← ge2]; exact bel.size
  refine E.opv hF (r_alloc hr) rfl rfl rfl rfl fun a hF => ?_
  clear hr
  replace o1 := o1.below bb
  replace bel := below_to bel bb
  clear bb
  refine E.nil ?_
  refine wp_seq ?_
  refine E.drawn 7 mixed hF [3, 4, 5, 6, 7, 8, 9] [(fun _ v => v = .agg #[.bool b1, .slice ad1 n1 c1, .slice ae1 m1 d1]), (fun w v => Rr w v (moonV (q1)) ((3 * k + 8 * i + 400))), (fun _ v => v = .agg #[.bool b1, .slice ad1 n1 c1, .slice ae1 m1 d1]), (fun w v => Rr w v (sunV (q1)) ((3 * k + 8 * i + 400))), (fun w v => Rr w v ((moonV (q1)) - (sunV (q1))) (((3 * k + 8 * i + 400) + (3 * k + 8 * i + 400) + 1))), (fun w v => Rr w v (((360 : Int) : Rat)) (2)), (fun w v => Rr w v (rmod ((moonV (q1)) - (sunV (q1))) (((360 : Int) : Rat))) ((((3 * k + 8 * i + 400) + (3 * k + 8 * i + 400) + 1) + 2 + ((3 * i + 100) + (3 * i + 100) + 1) + 2 + 3)))] [] (by decide +kernel) (by decide +kernel) rfl rfl rfl ⟨(Mb.eq _), (fun _ _ _ h hb => h.below hb), (Mb.eq _), (fun _ _ _ h hb => h.below hb), (fun _ _ _ h hb => h.below hb), (fun _ _ _ h hb => h.below hb), (fun _ _ _ h hb => h.below hb), trivial⟩ trivial ⟨?_, ?_, ?_, ?_, ?_, ?_, ?_, trivial⟩ ?_
  · intro a' w' hF' hb hd
    exact dv0 (r_load (hF'.at 1 rfl) (ld_RRat (vs := [.bool b1, .slice ad1 n1 c1, .slice ae1 m1 d1]) (o1.below hb) rfl rfl)) rfl rfl rfl
  · intro a' w' hF' hb hd
    have e3 := sHe hd 0 3 rfl rfl rfl rfl
    exact dc0 (r_call Tryz.func12 en12.1 en12.2 (map1 e3)) (rMoon12_any _ (q1) k i _ (h1.below (below_to bel hb)) li1 (by omega) (by omega) (by omega)) rfl rfl
  · intro a' w' hF' hb hd
    exact dv0 (r_load (hF'.at 1 rfl) (ld_RRat (vs := [.bool b1, .slice ad1 n1 c1, .slice ae1 m1 d1]) (o1.below hb) rfl rfl)) rfl rfl rfl
  · intro a' w' hF' hb hd
    have e5 := sHe hd 0 5 rfl rfl rfl rfl
    exact dc0 (r_call Tryz.func10 en10.1 en10.2 (map1 e5)) (rSun12_any _ (q1) k i _ (h1.below (below_to bel hb)) li1 (by omega) (by omega) (by omega)) rfl rfl
  · intro a' w' hF' hb hd
    obtain ⟨v4_0, e4, h4_1⟩ := sH hd 0 4 rfl rfl rfl rfl
    obtain ⟨v6_0, e6, h6_1⟩ := sH hd 1 6 rfl rfl rfl rfl
    exact dc0 (r_call Tryz.func49 en49.1 en49.2 (map2 e4 e6)) (dSub2_any _ _ _ _ (3 * k + 8 * i + 400) (3 * k + 8 * i + 400) _ h4_1 h6_1 (by omega) (by omega) (by omega) (by omega)) rfl rfl
  · intro a' w' hF' hb hd
    exact dc0 (r_call Tryz.func43 en43.1 en43.2 (map2 ev_c ev_c)) (dOf1b_any (360) _ (by decide) (by decide)) rfl rfl
  · intro a' w' hF' hb hd
    obtain ⟨v7_0, e7, h7_1⟩ := sH hd 0 7 rfl rfl rfl rfl
    obtain ⟨v8_0, e8, h8_1⟩ := sH hd 1 8 rfl rfl rfl rfl
    exact dc0 (r_call Tryz.func48 en48.1 en48.2 (map2 e7 e8)) (dMod2_any _ _ _ _ ((3 * k + 8 * i + 400) + (3 * k + 8 * i + 400) + 1) 2 ((3 * i + 100) + (3 * i + 100) + 1) 2 _ h7_1 h8_1 (rlim_sub (moonV_lim li1) (sunV_lim li1)) (lim64 (by decide) (by decide)) (by omega) (by omega) (by omega) (by omega) (by omega) (by omega)) rfl rfl
  intro a w3 hF bb hall hne
  obtain ⟨vv4, e9, hh5⟩ := sS hall 6 9 rfl rfl
  clear hall hne
  replace o2 := o2.below bb
  replace bel := below_to bel bb
  clear bb
  obtain ⟨b6, ad6, n6, c6, ae6, m6, d6, z6, D6, rfl, hn6, hd6, hD6, hq6, lz6, lD6⟩ := Rr.shape hh5
  have ha6 := hn6.abs
  replace hF := hF.add e9
  clear e9
  obtain ⟨w7, hr, tu, on⟩ := st_RRat (vs := [.bool b6, .slice ad6 n6 c6, .slice ae6 m6 d6]) o2 rfl rfl (ocB (ocS (ocS oc0))) (niB (niS (niS ni0))) (o := 0) rfl
  have kp := tu.keep o2
  refine E.st hF (r_store (hF.at 1 rfl) (hF.at 0 rfl) (hr _ rfl)) rfl rfl fun a hF => ?_
  clear hr
  replace hh5 := hh5.keep kp
  replace hn6 := hn6.keep kp
  replace ha6 := ha6.keep kp
  replace hd6 := hd6.keep kp
  replace bel := tu.below bel ge2
  clear tu kp
  replace o2 := on
  clear on
  refine E.nil ?_
  refine wp_ret ?_
  refine bodyPost_ret (res_cell Tryz.results14 (hF.at 1 rfl) (ld_RRat (vs := [.bool b6, .slice ad6 n6 c6, .slice ae6 m6 d6]) o2 rfl rfl)) hF.dfr ?_
  exact ⟨_, rfl, Rr.cast (Rr.up hh5 _ (by omega)) rfl, bel⟩

set_option maxHeartbeats 4000000 in
theorem rPart12_any (v1 : Value) (q1 : Rat) (k i : Nat) (n : Int) (w : World) (h1 : Rr w v1 q1 k) (li1 : RLim q1 i) (hp : 1 ≤ k) (hk : k ≤ 1200) (hi : i ≤ 600) (hn : 0 < n) (hn2 : n ≤ 1000) :
    Calls Tryz.prog 60 #[v1, .int .i64 n] w (ValPost w (.int .i64 (prt (rmod q1 ((360 : Int) : Rat)) n))) := by
  obtain ⟨b1, ad1, n1, c1, ae1, m1, d1, z1, D1, rfl, hn1, hd1, hD1, hq1, lz1, lD1⟩ := h1.shape
  have h1 : Rr w (.agg #[.bool b1, .slice ad1 n1 c1, .slice ae1 m1 d1]) q1 k := ⟨_, _, _, _, _, _, _, _, _, rfl, hn1, hd1, hD1, hq1, lz1, lD1⟩
  have ha1 := hn1.abs
  have hb1 := hn1.neg
  replace hq1 := Lib.hid hq1
  have bel : Below w.heap.size w w := Below.refl _ _
  refine E.enter (nt := 12) (L := [(0, .agg #[.bool b1, .slice ad1 n1 c1, .slice ae1 m1 d1]), (1, .int .i64 n)]) Tryz.func60 rfl rfl rfl (args_cons (i := 0) rfl (args_cons (i := 1) rfl args_nil)) ?_
  intro a hF
  refine wp_seq ?_
  refine E.seq ?_
  obtain ⟨g2, w1, ge2, hr, bb, o2⟩ := own_box (P := Tryz.prog) (w := w) (cs := [.bool b1, .slice ad1 n1 c1, .slice ae1 m1 d1]) (v := .agg #[.bool b1, .slice ad1 n1 c1, .slice ae1 m1 d1]) 39 rfl (niB (niS (niS ni0)))
  replace ge2 : w.heap.size ≤ g2 := by rw [← ge2]; exact bel.size
  refine E.opv hF (r_box (hF.at 0 rfl) hr) rfl rfl rfl rfl fun a hF => ?_
  clear hr
  replace bel := below_to bel bb
  clear bb
  refine E.opv hF (r_assign ev_c) rfl rfl rfl rfl fun a hF => ?_
  refine E.nil ?_
  refine wp_seq ?_
  refine E.drawn 7 mixed hF [5, 6, 7, 8, 9, 10, 11] [(fun _ v => v = .agg #[.bool b1, .slice ad1 n1 c1, .slice ae1 m1 d1]), (fun w v => Rr w v (((360 : Int) : Rat)) (2)), (fun w v => Rr w v (rmod (q1) (((360 : Int) : Rat))) ((k + 2 + i + 2 + 3))), (fun _ v => v = .int .i64 n), (fun w v => Rr w v (((n : Int) : Rat) / ((360 : Int) : Rat)) (2)), (fun w v => Rr w v ((rmod (q1) (((360 : Int) : Rat))) * (((n : Int) : Rat) / ((360 : Int) : Rat))) (((k + 2 + i + 2 + 3) + 2))), (fun _ v => v = .int .i64 (Rat.floor ((rmod (q1) (((360 : Int) : Rat))) * (((n : Int) : Rat) / ((360 : Int) : Rat)))))] [] (by decide +kernel) (by decide +kernel) rfl rfl rfl ⟨(Mb.eq _), (fun _ _ _ h hb => h.below hb), (fun _ _ _ h hb => h.below hb), (Mb.eq _), (fun _ _ _ h hb => h.below hb), (fun _ _ _ h hb => h.below hb), (Mb.eq _), trivial⟩ trivial ⟨?_, ?_, ?_, ?_, ?_, ?_, ?_, trivial⟩ ?_
  · intro a' w' hF' hb hd
    exact dv0 (r_load (hF'.at 1 rfl) (ld_RRat (vs := [.bool b1, .slice ad1 n1 c1, .slice ae1 m1 d1]) (o2.below hb) rfl rfl)) rfl rfl rfl
  · intro a' w' hF' hb hd
    exact dc0 (r_call Tryz.func43 en43.1 en43.2 (map2 ev_c ev_c)) (dOf1b_any (360) _ (by decide) (by decide)) rfl rfl
  · intro a' w' hF' hb hd
    have e5 := sHe hd 0 5 rfl rfl rfl rfl
    obtain ⟨v6_0, e6, h6_1⟩ := sH hd 1 6 rfl rfl rfl rfl
    exact dc0 (r_call Tryz.func48 en48.1 en48.2 (map2 e5 e6)) (dMod2_any _ _ (q1) _ k 2 i 2 _ (h1.below (below_to bel hb)) h6_1 li1 (lim64 (by decide) (by decide)) (by omega) (by omega) (by omega) (by omega) (by omega) (by omega)) rfl rfl
  · intro a' w' hF' hb hd
    exact dv0 (r_move (hF'.at 3 rfl)) rfl rfl rfl
  · intro a' w' hF' hb hd
    have e8 := sHe hd 0 8 rfl rfl rfl rfl
    exact dc0 (r_call Tryz.func43 en43.1 en43.2 (map2 e8 ev_c)) (dOf_any (n) (360) _ (by omega) (by omega) (by decide) (by decide)) rfl rfl
  · intro a' w' hF' hb hd
    obtain ⟨v7_0, e7, h7_1⟩ := sH hd 0 7 rfl rfl rfl rfl
    obtain ⟨v9_0, e9, h9_1⟩ := sH hd 1 9 rfl rfl rfl rfl
    exact dc0 (r_call Tryz.func83 en83.1 en83.2 (map2 e7 e9)) (dMul2_any _ _ _ _ (k + 2 + i + 2 + 3) 2 _ h7_1 h9_1 (by omega) (by omega) (by omega) (by omega)) rfl rfl
  · intro a' w' hF' hb hd
    obtain ⟨v10_0, e10, h10_1⟩ := sH hd 0 10 rfl rfl rfl rfl
    exact dcx0 (r_call Tryz.func105 en105.1 en105.2 (map1 e10)) (rint2_any _ _ ((k + 2 + i + 2 + 3) + 2) _ h10_1 (by omega) (by omega) (prt_s hn hn2).1 (prt_s hn hn2).2) (fun _ => rfl) rfl rfl
  intro a w2 hF bb hall hne
  have e11 := sSe hall 6 11 rfl rfl
  clear hall hne
  replace bel := below_to bel bb
  clear bb
  replace hF := hF.add e11
  clear e11
  refine E.opset (L' := [(4, .int .i64 (Rat.floor ((rmod (q1) (((360 : Int) : Rat))) * (((n : Int) : Rat) / ((360 : Int) : Rat))))), (11, .int .i64 (Rat.floor ((rmod (q1) (((360 : Int) : Rat))) * (((n : Int) : Rat) / ((360 : Int) : Rat))))), (2, .pointer (some ⟨g2, 0, none⟩)), (0, .agg #[.bool b1, .slice ad1 n1 c1, .slice ae1 m1 d1]), (1, .int .i64 n)]) hF (r_assign (hF.at 0 rfl)) rfl rfl rfl rfl fun a hF => ?_
  refine E.nil ?_
  refine wp_ret ?_
  refine bodyPost_ret (res_tmp Tryz.results60 (hF.at 0 rfl)) hF.dfr ?_
  exact ⟨rfl, bel⟩

set_option maxHeartbeats 8000000 in
theorem rOf12_any (v1 : Value) (q1 : Rat) (k i : Nat) (w : World) (h1 : Rr w v1 q1 k) (li1 : RLim q1 i) (hp : 1 ≤ k) (hk : k ≤ 3) (hi : i ≤ 3) :
    Calls Tryz.prog 20 #[v1] w (ValPost w (.agg #[.int .i64 (prt (sunV q1) 12), .int .i64 (prt (phaseV q1) 30 + 1), .int .i64 (prt (moonV q1) 27 + 1), .int .i64 (prt (yogaV q1) 27 + 1), .int .i64 (prt (phaseV q1) 60 + 1)])) := by
  obtain ⟨b1, ad1, n1, c1, ae1, m1, d1, z1, D1, rfl, hn1, hd1, hD1, hq1, lz1, lD1⟩ := h1.shape
  have h1 : Rr w (.agg #[.bool b1, .slice ad1 n1 c1, .slice ae1 m1 d1]) q1 k := ⟨_, _, _, _, _, _, _, _, _, rfl, hn1, hd1, hD1, hq1, lz1, lD1⟩
  have ha1 := hn1.abs
  have hb1 := hn1.neg
  replace hq1 := Lib.hid hq1
  have bel : Below w.heap.size w w := Below.refl _ _
  refine E.enter (nt := 32) (L := [(0, .agg #[.bool b1, .slice ad1 n1 c1, .slice ae1 m1 d1])]) Tryz.func20 rfl rfl rfl (args_cons (i := 0) rfl args_nil) ?_
  intro a hF
  refine wp_seq ?_
  refine E.seq ?_
  obtain ⟨g1, w1, ge1, hr, bb, o1⟩ := own_box (P := Tryz.prog) (w := w) (cs := [.bool b1, .slice ad1 n1 c1, .slice ae1 m1 d1]) (v := .agg #[.bool b1, .slice ad1 n1 c1, .slice ae1 m1 d1]) 39 rfl (niB (niS (niS ni0)))
  replace ge1 : w.heap.size ≤ g1 := by rw [← ge1]; exact bel.size
  refine E.opv hF (r_box (hF.at 0 rfl) hr) rfl rfl rfl rfl fun a hF => ?_
  clear hr
  replace bel := below_to bel bb
  clear bb
  obtain ⟨g2, w2, ge2, hr, bb, o2⟩ := blk_alloc (P := Tryz.prog) (w := w1) (cs := [.int .i64 0, .int .i64 0, .int .i64 0, .int .i64 0, .int .i64 0]) 52 ze_RElem rfl
  have ne1_2 : g1 ≠ g2 := by rw [← ge2]; exact o1.ne_new
  replace ge2 : w.heap.size ≤ g2 := by rw [← ge2]; exact bel.size
  refine E.opv hF (r_alloc hr) rfl rfl rfl rfl fun a hF => ?_
  clear hr
  replace o1 := o1.below bb
  replace bel := below_to bel bb
  clear bb
  refine E.nil ?_
  refine wp_seq ?_
  refine E.drawn 6 mixed hF [6, 7, 8, 9, 3, 4] [(fun _ v => v = .agg #[.bool b1, .slice ad1 n1 c1, .slice ae1 m1 d1]), (fun w v => Rr w v (sunV (q1)) ((3 * k + 8 * i + 400))), (fun _ v => v = .agg #[.bool b1, .slice ad1 n1 c1, .slice ae1 m1 d1]), (fun w v => Rr w v (moonV (q1)) ((3 * k + 8 * i + 400))), (fun w v => ∃ g, v = .pointer (some ⟨g, 0, none⟩) ∧ w2.heap.size ≤ g ∧ Own w g [.bool false, .slice none 0 0, .slice none 0 0]), (fun w v => ∃ g, v = .pointer (some ⟨g, 0, none⟩) ∧ w2.heap.size ≤ g ∧ Own w g [.bool false, .slice none 0 0, .slice none 0 0])] [4, 5] (by decide +kernel) (by decide +kernel) rfl rfl rfl ⟨(Mb.eq _), (fun _ _ _ h hb => h.below hb), (Mb.eq _), (fun _ _ _ h hb => h.below hb), (fun _ _ _ ⟨g, e, l, o⟩ hb => ⟨g, e, l, o.below hb⟩), (fun _ _ _ ⟨g, e, l, o⟩ hb => ⟨g, e, l, o.below hb⟩), trivial⟩ ⟨fun _ _ ⟨g, e, _, o⟩ => ⟨g, e, o.lt⟩, ⟨fun _ _ ⟨g, e, _, o⟩ => ⟨g, e, o.lt⟩, trivial⟩⟩ ⟨?_, ?_, ?_, ?_, ?_, ?_, trivial⟩ ?_
  · intro a' w' hF' hb hd
    exact dv0 (r_load (hF'.at 1 rfl) (ld_RRat (vs := [.bool b1, .slice ad1 n1 c1, .slice ae1 m1 d1]) (o1.below hb) rfl rfl)) rfl rfl rfl
  · intro a' w' hF' hb hd
    have e6 := sHe hd 0 6 rfl rfl rfl rfl
    exact dc0 (r_call Tryz.func10 en10.1 en10.2 (map1 e6)) (rSun12_any _ (q1) k i _ (h1.below (below_to bel hb)) li1 (by omega) (by omega) (by omega)) rfl rfl
  · intro a' w' hF' hb hd
    exact dv0 (r_load (hF'.at 1 rfl) (ld_RRat (vs := [.bool b1, .slice ad1 n1 c1, .slice ae1 m1 d1]) (o1.below hb) rfl rfl)) rfl rfl rfl
  · intro a' w' hF' hb hd
    have e8 := sHe hd 0 8 rfl rfl rfl rfl
    exact dc0 (r_call Tryz.func12 en12.1 en12.2 (map1 e8)) (rMoon12_any _ (q1) k i _ (h1.below (below_to bel hb)) li1 (by omega) (by omega) (by omega)) rfl rfl
  · intro a' w' hF' hb hd
    obtain ⟨g, w2, ge, hr, bb, on⟩ := own_alloc (P := Tryz.prog) (w := w') (cs := [.bool false, .slice none 0 0, .slice none 0 0]) 39 ze_RRat rfl (niB (niS (niS ni0)))
    subst ge
    exact if_does (wanted_free rfl) (Does.vals (r_alloc hr) ⟨⟨_, rfl, hb.size, on⟩, bb, fun _ => rfl⟩)
  · intro a' w' hF' hb hd
    obtain ⟨g, w2, ge, hr, bb, on⟩ := own_alloc (P := Tryz.prog) (w := w') (cs := [.bool false, .slice none 0 0, .slice none 0 0]) 39 ze_RRat rfl (niB (niS (niS ni0)))
    subst ge
    exact if_does (wanted_free rfl) (Does.vals (r_alloc hr) ⟨⟨_, rfl, hb.size, on⟩, bb, fun _ => rfl⟩)
  intro a w3 hF bb hall hne
  obtain ⟨vv4, e7, hh5⟩ := sS hall 1 7 rfl rfl
  obtain ⟨vv6, e9, hh7⟩ := sS hall 3 9 rfl rfl
  obtain ⟨g3, e3, ge3, o3⟩ : ∃ g, a.tmps.getD 3 undef = .pointer (some ⟨g, 0, none⟩) ∧ w2.heap.size ≤ g ∧ Own w3 g [.bool false, .slice none 0 0, .slice none 0 0] := hall 4 3 rfl
  have ne2_3 : g2 ≠ g3 := Nat.ne_of_lt (Nat.lt_of_lt_of_le o2.lt ge3)
  obtain ⟨g4, e4, ge4, o4⟩ : ∃ g, a.tmps.getD 4 undef = .pointer (some ⟨g, 0, none⟩) ∧ w2.heap.size ≤ g ∧ Own w3 g [.bool false, .slice none 0 0, .slice none 0 0] := hall 5 4 rfl
  have ne2_4 : g2 ≠ g4 := Nat.ne_of_lt (Nat.lt_of_lt_of_le o2.lt ge4)
  have ne3_4 : g3 ≠ g4 := by intro e; exact hne 4 5 3 4 rfl rfl (by decide) rfl rfl (by rw [e3, e4, e])
  replace ge3 : w.heap.size ≤ g3 := Nat.le_trans bel.size ge3
  replace ge4 : w.heap.size ≤ g4 := Nat.le_trans bel.size ge4
  clear hall hne
  replace o2 := o2.below bb
  replace bel := below_to bel bb
  clear bb
  obtain ⟨b8, ad8, n8, c8, ae8, m8, d8, z8, D8, rfl, hn8, hd8, hD8, hq8, lz8, lD8⟩ := Rr.shape hh5
  have ha8 := hn8.abs
  replace hF := hF.add e7
  clear e7
  obtain ⟨b9, ad9, n9, c9, ae9, m9, d9, z9, D9, rfl, hn9, hd9, hD9, hq9, lz9, lD9⟩ := Rr.shape hh7
  have ha9 := hn9.abs
  replace hF := hF.add e9
  clear e9
  replace hF := hF.add e3
  clear e3
  replace hF := hF.add e4
  clear e4
  obtain ⟨w10, hr, tu, on⟩ := st_RRat (vs := [.bool b8, .slice ad8 n8 c8, .slice ae8 m8 d8]) o3 rfl rfl (ocB (ocS (ocS oc0))) (niB (niS (niS ni0))) (o := 0) rfl
  have kp := tu.keep o3
  refine E.st hF (r_store (hF.at 1 rfl) (hF.at 3 rfl) (hr _ rfl)) rfl rfl fun a hF => ?_
  clear hr
  replace hh7 := hh7.keep kp
  replace hn9 := hn9.keep kp
  replace ha9 := ha9.keep kp
  replace hd9 := hd9.keep kp
  replace hh5 := hh5.keep kp
  replace hn8 := hn8.keep kp
  replace ha8 := ha8.keep kp
  replace hd8 := hd8.keep kp
  replace o2 := tu.blk o2 ne2_3
  replace o4 := tu.own o4 (Ne.symm ne3_4)
  replace bel := tu.below bel ge3
  clear tu kp
  replace o3 := on
  clear on
  obtain ⟨w11, hr, tu, on⟩ := st_RRat (vs := [.bool b9, .slice ad9 n9 c9, .slice ae9 m9 d9]) o4 rfl rfl (ocB (ocS (ocS oc0))) (niB (niS (niS ni0))) (o := 0) rfl
  have kp := tu.keep o4
  refine E.st hF (r_store (hF.at 0 rfl) (hF.at 2 rfl) (hr _ rfl)) rfl rfl fun a hF => ?_
  clear hr
  replace ha8 := ha8.keep kp
  replace hd8 := hd8.keep kp
  replace hh5 := hh5.keep kp
  replace hn8 := hn8.keep kp
  replace hh7 := hh7.keep kp
  replace hn9 := hn9.keep kp
  replace ha9 := ha9.keep kp
  replace hd9 := hd9.keep kp
  replace o2 := tu.blk o2 ne2_4
  replace o3 := tu.own o3 ne3_4
  replace bel := tu.below bel ge4
  clear tu kp
  replace o4 := on
  clear on
  refine E.nil ?_
  refine wp_seq ?_
  refine E.seq ?_
  refine E.opv hF (r_load (hF.at 0 rfl) (ld_RRat (vs := [.bool b9, .slice ad9 n9 c9, .slice ae9 m9 d9]) o4 rfl rfl)) rfl rfl rfl rfl fun a hF => ?_
  refine E.opv hF (r_load (hF.at 2 rfl) (ld_RRat (vs := [.bool b8, .slice ad8 n8 c8, .slice ae8 m8 d8]) o3 rfl rfl)) rfl rfl rfl rfl fun a hF => ?_
  refine E.call hF (r_call Tryz.func49 en49.1 en49.2 (map2 (hF.at 1 rfl) (hF.at 0 rfl))) (dSub2_any _ _ _ _ (3 * k + 8 * i + 400) (3 * k + 8 * i + 400) _ hh7 hh5 (by omega) (by omega) (by omega) (by omega)) rfl rfl rfl rfl ?_
  rintro e w12 ⟨vv13, rfl, hh14, bb⟩
  refine ⟨_, rfl, ?_⟩
  intro a hF
  replace ha8 := ha8.below bb
  replace hd8 := hd8.below bb
  replace hh5 := hh5.below bb
  replace hn8 := hn8.below bb
  replace ha9 := ha9.below bb
  replace hd9 := hd9.below bb
  replace hh7 := hh7.below bb
  replace hn9 := hn9.below bb
  replace o2 := o2.below bb
  replace o3 := o3.below bb
  replace o4 := o4.below bb
  replace bel := below_to bel bb
  clear bb
  obtain ⟨b15, ad15, n15, c15, ae15, m15, d15, z15, D15, rfl, hn15, hd15, hD15, hq15, lz15, lD15⟩ := Rr.shape hh14
  have ha15 := hn15.abs
  refine E.call hF (r_call Tryz.func43 en43.1 en43.2 (map2 ev_c ev_c)) (dOf1b_any (360) _ (by decide) (by decide)) rfl rfl rfl rfl ?_
  rintro e w16 ⟨vv17, rfl, hh18, bb⟩
  refine ⟨_, rfl, ?_⟩
  intro a hF
  replace hh14 := hh14.below bb
  replace hn15 := hn15.below bb
  replace ha15 := ha15.below bb
  replace hd15 := hd15.below bb
  replace ha8 := ha8.below bb
  replace hd8 := hd8.below bb
  replace hh5 := hh5.below bb
  replace hn8 := hn8.below bb
  replace ha9 := ha9.below bb
  replace hd9 := hd9.below bb
  replace hh7 := hh7.below bb
  replace hn9 := hn9.below bb
  replace o2 := o2.below bb
  replace o3 := o3.below bb
  replace o4 := o4.below bb
  replace bel := below_to bel bb
  clear bb
  obtain ⟨b19, ad19, n19, c19, ae19, m19, d19, z19, D19, rfl, hn19, hd19, hD19, hq19, lz19, lD19⟩ := Rr.shape hh18
  have ha19 := hn19.abs
  refine E.call hF (r_call Tryz.func48 en48.1 en48.2 (map2 (hF.at 1 rfl) (hF.at 0 rfl))) (dMod2_any _ _ _ _ ((3 * k + 8 * i + 400) + (3 * k + 8 * i + 400) + 1) 2 ((3 * i + 100) + (3 * i + 100) + 1) 2 _ hh14 hh18 (rlim_sub (moonV_lim li1) (sunV_lim li1)) (lim64 (by decide) (by decide)) (by omega) (by omega) (by omega) (by omega) (by omega) (by omega)) rfl rfl rfl rfl ?_
  rintro e w20 ⟨vv21, rfl, hh22, bb⟩
  refine ⟨_, rfl, ?_⟩
  intro a hF
  replace ha8 := ha8.below bb
  replace hd8 := hd8.below bb
  replace hh5 := hh5.below bb
  replace hn8 := hn8.below bb
  replace ha9 := ha9.below bb
  replace hd9 := hd9.below bb
  replace hh7 := hh7.below bb
  replace hn9 := hn9.below bb
  replace o2 := o2.below bb
  replace o3 := o3.below bb
  replace o4 := o4.below bb
  replace bel := below_to bel bb
  clear bb
  obtain ⟨b23, ad23, n23, c23, ae23, m23, d23, z23, D23, rfl, hn23, hd23, hD23, hq23, lz23, lD23⟩ := Rr.shape hh22
  have ha23 := hn23.abs
  obtain ⟨g5, w24, ge5, hr, bb, o5⟩ := own_alloc (P := Tryz.prog) (w := w20) (cs := [.bool false, .slice none 0 0, .slice none 0 0]) 39 ze_RRat rfl (niB (niS (niS ni0)))
  have ne2_5 : g2 ≠ g5 := by rw [← ge5]; exact o2.ne_new
  have ne3_5 : g3 ≠ g5 := by rw [← ge5]; exact o3.ne_new
  have ne4_5 : g4 ≠ g5 := by rw [← ge5]; exact o4.ne_new
  replace ge5 : w.heap.size ≤ g5 := by rw [← ge5]; exact bel.size
  refine E.opv hF (r_alloc hr) rfl rfl rfl rfl fun a hF => ?_
  clear hr
  replace hh22 := hh22.below bb
  replace hn23 := hn23.below bb
  replace ha23 := ha23.below bb
  replace hd23 := hd23.below bb
  replace ha8 := ha8.below bb
  replace hd8 := hd8.below bb
  replace hh5 := hh5.below bb
  replace hn8 := hn8.below bb
  replace ha9 := ha9.below bb
  replace hd9 := hd9.below bb
  replace hh7 := hh7.below bb
  replace hn9 := hn9.below bb
  replace o2 := o2.below bb
  replace o3 := o3.below bb
  replace o4 := o4.below bb
  replace bel := below_to bel bb
  clear bb
  obtain ⟨w25, hr, tu, on⟩ := st_RRat (vs := [.bool b23, .slice ad23 n23 c23, .slice ae23 m23 d23]) o5 rfl rfl (ocB (ocS (ocS oc0))) (niB (niS (niS ni0))) (o := 0) rfl
  have kp := tu.keep o5
  refine E.st hF (r_store (hF.at 0 rfl) (hF.at 1 rfl) (hr _ rfl)) rfl rfl fun a hF => ?_
  clear hr
  replace ha8 := ha8.keep kp
  replace hd8 := hd8.keep kp
  replace hh5 := hh5.keep kp
  replace hn8 := hn8.keep kp
  replace ha9 := ha9.keep kp
  replace hd9 := hd9.keep kp
  replace hh7 := hh7.keep kp
  replace hn9 := hn9.keep kp
  replace hh22 := hh22.keep kp
  replace hn23 := hn23.keep kp
  replace ha23 := ha23.keep kp
  replace hd23 := hd23.keep kp
  replace o2 := tu.blk o2 ne2_5
  replace o3 := tu.own o3 ne3_5
  replace o4 := tu.own o4 ne4_5
  replace bel := tu.below bel ge5
  clear tu kp
  replace o5 := on
  clear on
  refine E.nil ?_
  refine wp_seq ?_
  refine E.drawn 17 mixed hF [15, 16, 17, 18, 19, 20, 21, 22, 23, 24, 25, 26, 27, 28, 29, 30, 31] [(fun _ v => v = .agg #[.bool b8, .slice ad8 n8 c8, .slice ae8 m8 d8]), (fun _ v => v = .int .i64 (prt (rmod (sunV (q1)) ((360 : Int) : Rat)) 12)), (fun _ v => v = .agg #[.bool b23, .slice ad23 n23 c23, .slice ae23 m23 d23]), (fun _ v => v = .int .i64 (prt (rmod (phaseV (q1)) ((360 : Int) : Rat)) 30)), (fun _ v => v = .int .i64 ((prt (rmod (phaseV (q1)) ((360 : Int) : Rat)) 30) + 1)), (fun _ v => v = .agg #[.bool b9, .slice ad9 n9 c9, .slice ae9 m9 d9]), (fun _ v => v = .int .i64 (prt (rmod (moonV (q1)) ((360 : Int) : Rat)) 27)), (fun _ v => v = .int .i64 ((prt (rmod (moonV (q1)) ((360 : Int) : Rat)) 27) + 1)), (fun _ v => v = .agg #[.bool b8, .slice ad8 n8 c8, .slice ae8 m8 d8]), (fun _ v => v = .agg #[.bool b9, .slice ad9 n9 c9, .slice ae9 m9 d9]), (fun w v => Rr w v ((sunV (q1)) + (moonV (q1))) (((3 * k + 8 * i + 400) + (3 * k + 8 * i + 400) + 1))), (fun _ v => v = .int .i64 (prt (rmod ((sunV (q1)) + (moonV (q1))) ((360 : Int) : Rat)) 27)), (fun _ v => v = .int .i64 ((prt (rmod ((sunV (q1)) + (moonV (q1))) ((360 : Int) : Rat)) 27) + 1)), (fun _ v => v = .agg #[.bool b23, .slice ad23 n23 c23, .slice ae23 m23 d23]), (fun _ v => v = .int .i64 (prt (rmod (phaseV (q1)) ((360 : Int) : Rat)) 60)), (fun _ v => v = .int .i64 ((prt (rmod (phaseV (q1)) ((360 : Int) : Rat)) 60) + 1)), (fun _ v => v = .agg #[.int .i64 (prt (rmod (sunV (q1)) ((360 : Int) : Rat)) 12), .int .i64 ((prt (rmod (phaseV (q1)) ((360 : Int) : Rat)) 30) + 1), .int .i64 ((prt (rmod (moonV (q1)) ((360 : Int) : Rat)) 27) + 1), .int .i64 ((prt (rmod ((sunV (q1)) + (moonV (q1))) ((360 : Int) : Rat)) 27) + 1), .int .i64 ((prt (rmod (phaseV (q1)) ((360 : Int) : Rat)) 60) + 1)])] [] (by decide +kernel) (by decide +kernel) rfl rfl rfl ⟨(Mb.eq _), (Mb.eq _), (Mb.eq _), (Mb.eq _), (Mb.eq _), (Mb.eq _), (Mb.eq _), (Mb.eq _), (Mb.eq _), (Mb.eq _), (fun _ _ _ h hb => h.below hb), (Mb.eq _), (Mb.eq _), (Mb.eq _), (Mb.eq _), (Mb.eq _), (Mb.eq _), trivial⟩ trivial ⟨?_, ?_, ?_, ?_, ?_, ?_, ?_, ?_, ?_, ?_, ?_, ?_, ?_, ?_, ?_, ?_, ?_, trivial⟩ ?_
  · intro a' w' hF' hb hd
    exact dv0 (r_load (hF'.at 7 rfl) (ld_RRat (vs := [.bool b8, .slice ad8 n8 c8, .slice ae8 m8 d8]) (o3.below hb) rfl rfl)) rfl rfl rfl
  · intro a' w' hF' hb hd
    have e15 := sHe hd 0 15 rfl rfl rfl rfl
    exact dcx0 (r_call Tryz.func60 en60.1 en60.2 (map2 e15 ev_c)) (rPart12_any _ _ (3 * k + 8 * i + 400) (3 * i + 100) 12 _ (hh5.below hb) (sunV_lim li1) (by omega) (by omega) (by omega) (by omega) (by omega)) (fun _ => rfl) rfl rfl
  · intro a' w' hF' hb hd
    exact dv0 (r_load (hF'.at 0 rfl) (ld_RRat (vs := [.bool b23, .slice ad23 n23 c23, .slice ae23 m23 d23]) (o5.below hb) rfl rfl)) rfl rfl rfl
  · intro a' w' hF' hb hd
    have e17 := sHe hd 0 17 rfl rfl rfl rfl
    exact dcx0 (r_call Tryz.func60 en60.1 en60.2 (map2 e17 ev_c)) (rPart12_any _ _ (((3 * k + 8 * i + 400) + (3 * k + 8 * i + 400) + 1) + 2 + ((3 * i + 100) + (3 * i + 100) + 1) + 2 + 3) (((3 * i + 100) + (3 * i + 100) + 1) + 4) 30 _ (hh22.below hb) (rmod360_lim (rlim_sub (moonV_lim li1) (sunV_lim li1))) (by omega) (by omega) (by omega) (by omega) (by omega)) (fun _ => rfl) rfl rfl
  · intro a' w' hF' hb hd
    have e18 := sHe hd 0 18 rfl rfl rfl rfl
    have hpt46005 := prt_bd (x := rmod (phaseV (q1)) ((360 : Int) : Rat)) (n := 30) (by omega) (rmod_low c360_pos) (rmod_high c360_pos)
    exact dv0 (r_bin e18 ev_c eg_scalar (ia_add (by omega) (by omega))) rfl rfl rfl
  · intro a' w' hF' hb hd
    exact dv0 (r_load (hF'.at 6 rfl) (ld_RRat (vs := [.bool b9, .slice ad9 n9 c9, .slice ae9 m9 d9]) (o4.below hb) rfl rfl)) rfl rfl rfl
  · intro a' w' hF' hb hd
    have e20 := sHe hd 0 20 rfl rfl rfl rfl
    exact dcx0 (r_call Tryz.func60 en60.1 en60.2 (map2 e20 ev_c)) (rPart12_any _ _ (3 * k + 8 * i + 400) (3 * i + 100) 27 _ (hh7.below hb) (moonV_lim li1) (by omega) (by omega) (by omega) (by omega) (by omega)) (fun _ => rfl) rfl rfl
  · intro a' w' hF' hb hd
    have e21 := sHe hd 0 21 rfl rfl rfl rfl
    have hpt43518 := prt_bd (x := rmod (moonV (q1)) ((360 : Int) : Rat)) (n := 27) (by omega) (rmod_low c360_pos) (rmod_high c360_pos)
    exact dv0 (r_bin e21 ev_c eg_scalar (ia_add (by omega) (by omega))) rfl rfl rfl
  · intro a' w' hF' hb hd
    exact dv0 (r_load (hF'.at 7 rfl) (ld_RRat (vs := [.bool b8, .slice ad8 n8 c8, .slice ae8 m8 d8]) (o3.below hb) rfl rfl)) rfl rfl rfl
  · intro a' w' hF' hb hd
    exact dv0 (r_load (hF'.at 6 rfl) (ld_RRat (vs := [.bool b9, .slice ad9 n9 c9, .slice ae9 m9 d9]) (o4.below hb) rfl rfl)) rfl rfl rfl
  · intro a' w' hF' hb hd
    have e23 := sHe hd 0 23 rfl rfl rfl rfl
    have e24 := sHe hd 1 24 rfl rfl rfl rfl
    exact dc0 (r_call Tryz.func61 en61.1 en61.2 (map2 e23 e24)) (dAdd2_any _ _ _ _ (3 * k + 8 * i + 400) (3 * k + 8 * i + 400) _ (hh5.below hb) (hh7.below hb) (by omega) (by omega) (by omega) (by omega)) rfl rfl
  · intro a' w' hF' hb hd
    obtain ⟨v25_0, e25, h25_1⟩ := sH hd 0 25 rfl rfl rfl rfl
    exact dcx0 (r_call Tryz.func60 en60.1 en60.2 (map2 e25 ev_c)) (rPart12_any _ _ ((3 * k + 8 * i + 400) + (3 * k + 8 * i + 400) + 1) ((3 * i + 100) + (3 * i + 100) + 1) 27 _ h25_1 (rlim_add (sunV_lim li1) (moonV_lim li1)) (by omega) (by omega) (by omega) (by omega) (by omega)) (fun _ => rfl) rfl rfl
  · intro a' w' hF' hb hd
    have e26 := sHe hd 0 26 rfl rfl rfl rfl
    have hpt66632 := prt_bd (x := rmod ((sunV (q1)) + (moonV (q1))) ((360 : Int) : Rat)) (n := 27) (by omega) (rmod_low c360_pos) (rmod_high c360_pos)
    exact dv0 (r_bin e26 ev_c eg_scalar (ia_add (by omega) (by omega))) rfl rfl rfl
  · intro a' w' hF' hb hd
    exact dv0 (r_load (hF'.at 0 rfl) (ld_RRat (vs := [.bool b23, .slice ad23 n23 c23, .slice ae23 m23 d23]) (o5.below hb) rfl rfl)) rfl rfl rfl
  · intro a' w' hF' hb hd
    have e28 := sHe hd 0 28 rfl rfl rfl rfl
    exact dcx0 (r_call Tryz.func60 en60.1 en60.2 (map2 e28 ev_c)) (rPart12_any _ _ (((3 * k + 8 * i + 400) + (3 * k + 8 * i + 400) + 1) + 2 + ((3 * i + 100) + (3 * i + 100) + 1) + 2 + 3) (((3 * i + 100) + (3 * i + 100) + 1) + 4) 60 _ (hh22.below hb) (rmod360_lim (rlim_sub (moonV_lim li1) (sunV_lim li1))) (by omega) (by omega) (by omega) (by omega) (by omega)) (fun _ => rfl) rfl rfl
  · intro a' w' hF' hb hd
    have e29 := sHe hd 0 29 rfl rfl rfl rfl
    have hpt98206 := prt_bd (x := rmod (phaseV (q1)) ((360 : Int) : Rat)) (n := 60) (by omega) (rmod_low c360_pos) (rmod_high c360_pos)
    exact dv0 (r_bin e29 ev_c eg_scalar (ia_add (by omega) (by omega))) rfl rfl rfl
  · intro a' w' hF' hb hd
    have e16 := sHe hd 0 16 rfl rfl rfl rfl
    have hpt93220 := prt_bd (x := rmod (sunV (q1)) ((360 : Int) : Rat)) (n := 12) (by omega) (rmod_low c360_pos) (rmod_high c360_pos)
    have e19 := sHe hd 1 19 rfl rfl rfl rfl
    have e22 := sHe hd 2 22 rfl rfl rfl rfl
    have e27 := sHe hd 3 27 rfl rfl rfl rfl
    have e30 := sHe hd 4 30 rfl rfl rfl rfl
    exact dv0 (r_build (pair5 e16 e19 e22 e27 e30) (bd_RElem_01234 _ _ _ _ _ _)) rfl rfl rfl
  intro a w26 hF bb hall hne
  have e31 := sSe hall 16 31 rfl rfl
  clear hall hne
  replace o2 := o2.below bb
  replace bel := below_to bel bb
  clear bb
  replace hF := hF.add e31
  clear e31
  obtain ⟨w27, hr, tu, on⟩ := stb_RElem (vs := [.int .i64 (prt (rmod (sunV (q1)) ((360 : Int) : Rat)) 12), .int .i64 ((prt (rmod (phaseV (q1)) ((360 : Int) : Rat)) 30) + 1), .int .i64 ((prt (rmod (moonV (q1)) ((360 : Int) : Rat)) 27) + 1), .int .i64 ((prt (rmod ((sunV (q1)) + (moonV (q1))) ((360 : Int) : Rat)) 27) + 1), .int .i64 ((prt (rmod (phaseV (q1)) ((360 : Int) : Rat)) 60) + 1)]) o2 rfl rfl (ocI (ocI (ocI (ocI (ocI oc0))))) (o := 0) rfl
  refine E.st hF (r_store (hF.at 11 rfl) (hF.at 0 rfl) (hr _ rfl)) rfl rfl fun a hF => ?_
  clear hr
  replace bel := tu.below bel ge2
  clear tu
  replace o2 := on
  clear on
  refine E.nil ?_
  refine wp_ret ?_
  refine bodyPost_ret (res_cell Tryz.results20 (hF.at 11 rfl) (ldb_RElem (vs := [.int .i64 (prt (rmod (sunV (q1)) ((360 : Int) : Rat)) 12), .int .i64 ((prt (rmod (phaseV (q1)) ((360 : Int) : Rat)) 30) + 1), .int .i64 ((prt (rmod (moonV (q1)) ((360 : Int) : Rat)) 27) + 1), .int .i64 ((prt (rmod ((sunV (q1)) + (moonV (q1))) ((360 : Int) : Rat)) 27) + 1), .int .i64 ((prt (rmod (phaseV (q1)) ((360 : Int) : Rat)) 60) + 1)]) o2 rfl rfl)) hF.dfr ?_
  refine ⟨?_, bel⟩
  simp only [pid_sun, pid_moon, pid_phase, pid_yoga]

end Go.Proofs.YtmpdbkdijfpbbaaGreatDoor
