/- EphemerisCircle. -/
import Derived.Test.YteafnboehmfmiaaDoorSnC
import Derived.Test.YteafnboehmfmiaaDoorGN
namespace Go.Proofs.YteafnboehmfmiaaDoor
open Go.RowKit
set_option maxRecDepth 100000
set_option linter.unusedVariables false

set_option maxHeartbeats 8000000 in
theorem circle_walk (nega1 : Bool) (aa1 : Option Addr) (na1 ca1 : Nat) (xa1 : List Nat) (negb1 : Bool) (ab1 : Option Addr) (nb1 cb1 : Nat) (xb1 : List Nat) (w : World) (hT : TabD w) (ia1 : InX w aa1 na1 ca1 xa1) (ib1 : InX w ab1 nb1 cb1 xb1) :
    Calls Tryd.prog 10 #[.agg #[.bool nega1, .slice aa1 na1 ca1, .bool negb1, .slice ab1 nb1 cb1]] w (ValPost w (.bool true)) := by
  have oka1 := ia1.ok
  have okb1 := ib1.ok
  have bel : Below w.heap.size w w := Below.refl _ _
  refine E.enter (nt := 41) (L := [(0, .agg #[.bool nega1, .slice aa1 na1 ca1, .bool negb1, .slice ab1 nb1 cb1])]) Tryd.func10 rfl rfl rfl (args_cons (i := 0) rfl args_nil) ?_
  intro a hF
  refine wp_seq ?_
  refine E.seq ?_
  obtain ⟨g1, w1, ge1, hr, bb, o1⟩ := own_box (P := Tryd.prog) (w := w) (cs := [.bool nega1, .slice aa1 na1 ca1, .bool negb1, .slice ab1 nb1 cb1]) (v := .agg #[.bool nega1, .slice aa1 na1 ca1, .bool negb1, .slice ab1 nb1 cb1]) 37 rfl (niB (niS (niB (niS ni0))))
  replace ge1 : w.heap.size ≤ g1 := by rw [← ge1]; exact bel.size
  refine E.opv hF (r_box (hF.at 0 rfl) hr) rfl rfl rfl rfl fun a hF => ?_
  clear hr
  replace ia1 := ia1.below bb
  replace ib1 := ib1.below bb
  replace bel := below_to bel bb
  clear bb
  refine E.opv hF (r_assign ev_c) rfl rfl rfl rfl fun a hF => ?_
  refine E.nil ?_
  refine wp_seq ?_
  refine wp_seq ?_
  refine E.seq ?_
  refine E.call hF (r_call Tryd.func36 en36.1 en36.2 map0) (live_any _) rfl rfl rfl rfl ?_
  rintro e w2 ⟨rfl, bb⟩
  refine ⟨_, rfl, ?_⟩
  intro a hF
  replace ia1 := ia1.below bb
  replace ib1 := ib1.below bb
  replace o1 := o1.below bb
  replace bel := below_to bel bb
  clear bb
  refine E.opv hF (r_un (hF.at 0 rfl) (bn_not _ false rfl)) rfl rfl rfl rfl fun a hF => ?_
  refine E.nil ?_
  refine wp_cond_false (hF.at 0 rfl) ?_
  refine wp_skip ?_
  refine E.norm ?_
  refine wp_seq ?_
  refine E.seq ?_
  refine E.opv hF (r_load (hF.at 3 rfl) (ld_Raw5 (vs := [.bool nega1, .slice aa1 na1 ca1, .bool negb1, .slice ab1 nb1 cb1]) o1 rfl rfl)) rfl rfl rfl rfl fun a hF => ?_
  refine E.call hF (r_call Tryd.func23 en23.1 en23.2 (map2 (hF.at 0 rfl) ev_c)) (Own5_any nega1 aa1 na1 ca1 xa1 negb1 ab1 nb1 cb1 xb1 3 _ ia1 ib1 (by omega)) rfl rfl rfl rfl ?_
  rintro e w3 ⟨vv4, rfl, hh5, bb⟩
  refine ⟨_, rfl, ?_⟩
  intro a hF
  replace bel := below_to bel bb
  clear bb
  obtain ⟨b6, ad6, n6, c6, ae6, m6, d6, rfl, hn6, hd6⟩ := Rq.shape hh5
  have hf7 := Wc.abs hn6
  obtain ⟨g3, w8, ge3, hr, bb, o3⟩ := own_alloc (P := Tryd.prog) (w := w3) (cs := [.bool false, .slice none 0 0, .slice none 0 0]) 42 ze_Rat rfl (niB (niS (niS ni0)))
  replace ge3 : w.heap.size ≤ g3 := by rw [← ge3]; exact bel.size
  refine E.opv hF (r_alloc hr) rfl rfl rfl rfl fun a hF => ?_
  clear hr
  replace hh5 := hh5.below bb
  replace hn6 := hn6.below bb
  replace hf7 := hf7.below bb
  replace hd6 := hd6.below bb
  replace bel := below_to bel bb
  clear bb
  obtain ⟨w9, hr, tu, on⟩ := st_Rat (vs := [.bool b6, .slice ad6 n6 c6, .slice ae6 m6 d6]) o3 rfl rfl (ocB (ocS (ocS oc0))) (niB (niS (niS ni0))) (o := 0) rfl
  have kp := tu.keep o3
  refine E.st hF (r_store (hF.at 0 rfl) (hF.at 1 rfl) (hr _ rfl)) rfl rfl fun a hF => ?_
  clear hr
  replace hh5 := hh5.keep kp
  replace hn6 := hn6.keep kp
  replace hf7 := hf7.keep kp
  replace hd6 := hd6.keep kp
  replace bel := tu.below bel ge3
  clear tu kp
  replace o3 := on
  clear on
  refine E.nil ?_
  refine wp_seq ?_
  refine E.drawn 6 mixed hF [11, 12, 13, 14, 4, 5] [(fun _ v => v = .agg #[.bool b6, .slice ad6 n6 c6, .slice ae6 m6 d6]), (fun w v => Rq w v (sof (((rawZ nega1 xa1 3 : Int) : Rat) / ((rawZ negb1 xb1 3 : Int) : Rat)))), (fun _ v => v = .agg #[.bool b6, .slice ad6 n6 c6, .slice ae6 m6 d6]), (fun w v => Rq w v (sof ((((rawZ nega1 xa1 3 : Int) : Rat) / ((rawZ negb1 xb1 3 : Int) : Rat)) + ((90 : Int) : Rat)))), (fun w v => ∃ g, v = .pointer (some ⟨g, 0, none⟩) ∧ w9.heap.size ≤ g ∧ Own w g [.bool false, .slice none 0 0, .slice none 0 0]), (fun w v => ∃ g, v = .pointer (some ⟨g, 0, none⟩) ∧ w9.heap.size ≤ g ∧ Own w g [.bool false, .slice none 0 0, .slice none 0 0])] [4, 5] (by decide +kernel) (by decide +kernel) rfl rfl rfl ⟨(Mb.eq _), (fun _ _ _ h hb => h.below hb), (Mb.eq _), (fun _ _ _ h hb => h.below hb), (fun _ _ _ ⟨g, e, l, o⟩ hb => ⟨g, e, l, o.below hb⟩), (fun _ _ _ ⟨g, e, l, o⟩ hb => ⟨g, e, l, o.below hb⟩), trivial⟩ ⟨fun _ _ ⟨g, e, _, o⟩ => ⟨g, e, o.lt⟩, ⟨fun _ _ ⟨g, e, _, o⟩ => ⟨g, e, o.lt⟩, trivial⟩⟩ ⟨?_, ?_, ?_, ?_, ?_, ?_, trivial⟩ ?_
  · intro a' w' hF' hb hd
    exact if_does (wanted_free rfl) (Does.vals (r_load (hF'.at 0 rfl) (ld_Rat (vs := [.bool b6, .slice ad6 n6 c6, .slice ae6 m6 d6]) (o3.below hb) rfl rfl)) ⟨rfl, Below.refl _ _, (fun h => absurd h (by decide))⟩)
  · intro a' w' hF' hb hd
    have e11 : a'.tmps.getD 11 undef = .agg #[.bool b6, .slice ad6 n6 c6, .slice ae6 m6 d6] := hd _ 11 (Array.mem_of_getElem? (i := 0) rfl) rfl rfl
    refine if_does (wanted_free rfl) (Does.calls (r_call Tryd.func24 en24.1 en24.2 (map1 e11)) (sof_any _ (((rawZ nega1 xa1 3 : Int) : Rat) / ((rawZ negb1 xb1 3 : Int) : Rat)) 3 _ (hT.below (below_to bel hb)) (hh5.below hb) (own5_lim nega1 negb1 oka1 okb1 3 (by decide)) (by omega)) ?_)
    rintro e w'' ⟨v', rfl, h', bb⟩
    exact ⟨_, rfl, h', bb, (fun h => absurd h (by decide))⟩
  · intro a' w' hF' hb hd
    exact if_does (wanted_free rfl) (Does.vals (r_load (hF'.at 0 rfl) (ld_Rat (vs := [.bool b6, .slice ad6 n6 c6, .slice ae6 m6 d6]) (o3.below hb) rfl rfl)) ⟨rfl, Below.refl _ _, (fun h => absurd h (by decide))⟩)
  · intro a' w' hF' hb hd
    have e13 : a'.tmps.getD 13 undef = .agg #[.bool b6, .slice ad6 n6 c6, .slice ae6 m6 d6] := hd _ 13 (Array.mem_of_getElem? (i := 0) rfl) rfl rfl
    refine if_does (wanted_free rfl) (Does.calls (r_call Tryd.func37 en37.1 en37.2 (map1 e13)) (scos_any _ (((rawZ nega1 xa1 3 : Int) : Rat) / ((rawZ negb1 xb1 3 : Int) : Rat)) 3 _ (hT.below (below_to bel hb)) (hh5.below hb) (own5_lim nega1 negb1 oka1 okb1 3 (by decide)) (by omega)) ?_)
    rintro e w'' ⟨v', rfl, h', bb⟩
    exact ⟨_, rfl, h', bb, (fun h => absurd h (by decide))⟩
  · intro a' w' hF' hb hd
    obtain ⟨g, w2, ge, hr, bb, on⟩ := own_alloc (P := Tryd.prog) (w := w') (cs := [.bool false, .slice none 0 0, .slice none 0 0]) 42 ze_Rat rfl (niB (niS (niS ni0)))
    subst ge
    exact if_does (wanted_free rfl) (Does.vals (r_alloc hr) ⟨⟨_, rfl, hb.size, on⟩, bb, fun _ => rfl⟩)
  · intro a' w' hF' hb hd
    obtain ⟨g, w2, ge, hr, bb, on⟩ := own_alloc (P := Tryd.prog) (w := w') (cs := [.bool false, .slice none 0 0, .slice none 0 0]) 42 ze_Rat rfl (niB (niS (niS ni0)))
    subst ge
    exact if_does (wanted_free rfl) (Does.vals (r_alloc hr) ⟨⟨_, rfl, hb.size, on⟩, bb, fun _ => rfl⟩)
  intro a w10 hF bb hall hne
  obtain ⟨vv11, e12, hh12⟩ : ∃ v, a.tmps.getD 12 undef = v ∧ Rq w10 v (sof (((rawZ nega1 xa1 3 : Int) : Rat) / ((rawZ negb1 xb1 3 : Int) : Rat))) := ⟨_, rfl, hall 1 12 rfl⟩
  obtain ⟨vv13, e14, hh14⟩ : ∃ v, a.tmps.getD 14 undef = v ∧ Rq w10 v (sof ((((rawZ nega1 xa1 3 : Int) : Rat) / ((rawZ negb1 xb1 3 : Int) : Rat)) + ((90 : Int) : Rat))) := ⟨_, rfl, hall 3 14 rfl⟩
  obtain ⟨g4, e4, ge4, o4⟩ : ∃ g, a.tmps.getD 4 undef = .pointer (some ⟨g, 0, none⟩) ∧ w9.heap.size ≤ g ∧ Own w10 g [.bool false, .slice none 0 0, .slice none 0 0] := hall 4 4 rfl
  obtain ⟨g5, e5, ge5, o5⟩ : ∃ g, a.tmps.getD 5 undef = .pointer (some ⟨g, 0, none⟩) ∧ w9.heap.size ≤ g ∧ Own w10 g [.bool false, .slice none 0 0, .slice none 0 0] := hall 5 5 rfl
  have ne4_5 : g4 ≠ g5 := by intro e; exact hne 4 5 4 5 rfl rfl (by decide) rfl rfl (by rw [e4, e5, e])
  replace ge4 : w.heap.size ≤ g4 := Nat.le_trans bel.size ge4
  replace ge5 : w.heap.size ≤ g5 := Nat.le_trans bel.size ge5
  clear hall hne
  replace bel := below_to bel bb
  clear bb
  obtain ⟨b15, ad15, n15, c15, ae15, m15, d15, rfl, hn15, hd15⟩ := Rq.shape hh12
  have hf16 := Wc.abs hn15
  replace hF := hF.add e12
  clear e12
  obtain ⟨b17, ad17, n17, c17, ae17, m17, d17, rfl, hn17, hd17⟩ := Rq.shape hh14
  have hf18 := Wc.abs hn17
  replace hF := hF.add e14
  clear e14
  replace hF := hF.add e4
  clear e4
  replace hF := hF.add e5
  clear e5
  obtain ⟨w19, hr, tu, on⟩ := st_Rat (vs := [.bool b15, .slice ad15 n15 c15, .slice ae15 m15 d15]) o4 rfl rfl (ocB (ocS (ocS oc0))) (niB (niS (niS ni0))) (o := 0) rfl
  have kp := tu.keep o4
  refine E.st hF (r_store (hF.at 1 rfl) (hF.at 3 rfl) (hr _ rfl)) rfl rfl fun a hF => ?_
  clear hr
  replace hh14 := hh14.keep kp
  replace hn17 := hn17.keep kp
  replace hf18 := hf18.keep kp
  replace hd17 := hd17.keep kp
  replace hh12 := hh12.keep kp
  replace hn15 := hn15.keep kp
  replace hf16 := hf16.keep kp
  replace hd15 := hd15.keep kp
  replace o5 := tu.own o5 (Ne.symm ne4_5)
  replace bel := tu.below bel ge4
  clear tu kp
  replace o4 := on
  clear on
  obtain ⟨w20, hr, tu, on⟩ := st_Rat (vs := [.bool b17, .slice ad17 n17 c17, .slice ae17 m17 d17]) o5 rfl rfl (ocB (ocS (ocS oc0))) (niB (niS (niS ni0))) (o := 0) rfl
  have kp := tu.keep o5
  refine E.st hF (r_store (hF.at 0 rfl) (hF.at 2 rfl) (hr _ rfl)) rfl rfl fun a hF => ?_
  clear hr
  replace hf16 := hf16.keep kp
  replace hd15 := hd15.keep kp
  replace hh12 := hh12.keep kp
  replace hn15 := hn15.keep kp
  replace hh14 := hh14.keep kp
  replace hn17 := hn17.keep kp
  replace hf18 := hf18.keep kp
  replace hd17 := hd17.keep kp
  replace o4 := tu.own o4 ne4_5
  replace bel := tu.below bel ge5
  clear tu kp
  replace o5 := on
  clear on
  refine E.nil ?_
  refine wp_seq ?_
  refine wp_seq ?_
  refine E.drawn 13 mixed hF [15, 16, 17, 18, 19, 20, 21, 22, 23, 24, 25, 26, 27] [(fun _ v => v = .agg #[.bool b15, .slice ad15 n15 c15, .slice ae15 m15 d15]), (fun _ v => v = .agg #[.bool b15, .slice ad15 n15 c15, .slice ae15 m15 d15]), (fun w v => Rq w v ((sof (((rawZ nega1 xa1 3 : Int) : Rat) / ((rawZ negb1 xb1 3 : Int) : Rat))) * (sof (((rawZ nega1 xa1 3 : Int) : Rat) / ((rawZ negb1 xb1 3 : Int) : Rat))))), (fun _ v => v = .agg #[.bool b17, .slice ad17 n17 c17, .slice ae17 m17 d17]), (fun _ v => v = .agg #[.bool b17, .slice ad17 n17 c17, .slice ae17 m17 d17]), (fun w v => Rq w v ((sof ((((rawZ nega1 xa1 3 : Int) : Rat) / ((rawZ negb1 xb1 3 : Int) : Rat)) + ((90 : Int) : Rat))) * (sof ((((rawZ nega1 xa1 3 : Int) : Rat) / ((rawZ negb1 xb1 3 : Int) : Rat)) + ((90 : Int) : Rat))))), (fun w v => Rq w v (((sof (((rawZ nega1 xa1 3 : Int) : Rat) / ((rawZ negb1 xb1 3 : Int) : Rat))) * (sof (((rawZ nega1 xa1 3 : Int) : Rat) / ((rawZ negb1 xb1 3 : Int) : Rat)))) + ((sof ((((rawZ nega1 xa1 3 : Int) : Rat) / ((rawZ negb1 xb1 3 : Int) : Rat)) + ((90 : Int) : Rat))) * (sof ((((rawZ nega1 xa1 3 : Int) : Rat) / ((rawZ negb1 xb1 3 : Int) : Rat)) + ((90 : Int) : Rat)))))), (fun w v => Rq w v (((1 : Int) : Rat))), (fun w v => Rq w v ((((sof (((rawZ nega1 xa1 3 : Int) : Rat) / ((rawZ negb1 xb1 3 : Int) : Rat))) * (sof (((rawZ nega1 xa1 3 : Int) : Rat) / ((rawZ negb1 xb1 3 : Int) : Rat)))) + ((sof ((((rawZ nega1 xa1 3 : Int) : Rat) / ((rawZ negb1 xb1 3 : Int) : Rat)) + ((90 : Int) : Rat))) * (sof ((((rawZ nega1 xa1 3 : Int) : Rat) / ((rawZ negb1 xb1 3 : Int) : Rat)) + ((90 : Int) : Rat))))) - (((1 : Int) : Rat)))), (fun w v => Rq w v (Rat.abs ((((sof (((rawZ nega1 xa1 3 : Int) : Rat) / ((rawZ negb1 xb1 3 : Int) : Rat))) * (sof (((rawZ nega1 xa1 3 : Int) : Rat) / ((rawZ negb1 xb1 3 : Int) : Rat)))) + ((sof ((((rawZ nega1 xa1 3 : Int) : Rat) / ((rawZ negb1 xb1 3 : Int) : Rat)) + ((90 : Int) : Rat))) * (sof ((((rawZ nega1 xa1 3 : Int) : Rat) / ((rawZ negb1 xb1 3 : Int) : Rat)) + ((90 : Int) : Rat))))) - (((1 : Int) : Rat))))), (fun w v => Rq w v (((1 : Int) : Rat) / ((500 : Int) : Rat))), (fun _ v => v = .int .i64 (qc (Rat.abs ((((sof (((rawZ nega1 xa1 3 : Int) : Rat) / ((rawZ negb1 xb1 3 : Int) : Rat))) * (sof (((rawZ nega1 xa1 3 : Int) : Rat) / ((rawZ negb1 xb1 3 : Int) : Rat)))) + ((sof ((((rawZ nega1 xa1 3 : Int) : Rat) / ((rawZ negb1 xb1 3 : Int) : Rat)) + ((90 : Int) : Rat))) * (sof ((((rawZ nega1 xa1 3 : Int) : Rat) / ((rawZ negb1 xb1 3 : Int) : Rat)) + ((90 : Int) : Rat))))) - (((1 : Int) : Rat)))) (((1 : Int) : Rat) / ((500 : Int) : Rat)))), (fun _ v => v = .bool false)] [] (by decide +kernel) (by decide +kernel) rfl rfl rfl ⟨(Mb.eq _), (Mb.eq _), (fun _ _ _ h hb => h.below hb), (Mb.eq _), (Mb.eq _), (fun _ _ _ h hb => h.below hb), (fun _ _ _ h hb => h.below hb), (fun _ _ _ h hb => h.below hb), (fun _ _ _ h hb => h.below hb), (fun _ _ _ h hb => h.below hb), (fun _ _ _ h hb => h.below hb), (Mb.eq _), (Mb.eq _), trivial⟩ trivial ⟨?_, ?_, ?_, ?_, ?_, ?_, ?_, ?_, ?_, ?_, ?_, ?_, ?_, trivial⟩ ?_
  · intro a' w' hF' hb hd
    exact if_does (wanted_free rfl) (Does.vals (r_load (hF'.at 1 rfl) (ld_Rat (vs := [.bool b15, .slice ad15 n15 c15, .slice ae15 m15 d15]) (o4.below hb) rfl rfl)) ⟨rfl, Below.refl _ _, (fun h => absurd h (by decide))⟩)
  · intro a' w' hF' hb hd
    exact if_does (wanted_free rfl) (Does.vals (r_load (hF'.at 1 rfl) (ld_Rat (vs := [.bool b15, .slice ad15 n15 c15, .slice ae15 m15 d15]) (o4.below hb) rfl rfl)) ⟨rfl, Below.refl _ _, (fun h => absurd h (by decide))⟩)
  · intro a' w' hF' hb hd
    have e15 : a'.tmps.getD 15 undef = .agg #[.bool b15, .slice ad15 n15 c15, .slice ae15 m15 d15] := hd _ 15 (Array.mem_of_getElem? (i := 0) rfl) rfl rfl
    have e16 : a'.tmps.getD 16 undef = .agg #[.bool b15, .slice ad15 n15 c15, .slice ae15 m15 d15] := hd _ 16 (Array.mem_of_getElem? (i := 1) rfl) rfl rfl
    refine if_does (wanted_free rfl) (Does.calls (r_call Tryd.func27 en27.1 en27.2 (map2 e15 e16)) (rMul_any _ _ (sof (((rawZ nega1 xa1 3 : Int) : Rat) / ((rawZ negb1 xb1 3 : Int) : Rat))) (sof (((rawZ nega1 xa1 3 : Int) : Rat) / ((rawZ negb1 xb1 3 : Int) : Rat))) (4 * 3 + 60) _ (hh12.below hb) (hh12.below hb) ((sof_lim (own5_lim nega1 negb1 oka1 okb1 3 (by decide))).up _ (by omega)) ((sof_lim (own5_lim nega1 negb1 oka1 okb1 3 (by decide))).up _ (by omega)) (by omega)) ?_)
    rintro e w'' ⟨v', rfl, h', bb⟩
    exact ⟨_, rfl, h', bb, (fun h => absurd h (by decide))⟩
  · intro a' w' hF' hb hd
    exact if_does (wanted_free rfl) (Does.vals (r_load (hF'.at 0 rfl) (ld_Rat (vs := [.bool b17, .slice ad17 n17 c17, .slice ae17 m17 d17]) (o5.below hb) rfl rfl)) ⟨rfl, Below.refl _ _, (fun h => absurd h (by decide))⟩)
  · intro a' w' hF' hb hd
    exact if_does (wanted_free rfl) (Does.vals (r_load (hF'.at 0 rfl) (ld_Rat (vs := [.bool b17, .slice ad17 n17 c17, .slice ae17 m17 d17]) (o5.below hb) rfl rfl)) ⟨rfl, Below.refl _ _, (fun h => absurd h (by decide))⟩)
  · intro a' w' hF' hb hd
    have e18 : a'.tmps.getD 18 undef = .agg #[.bool b17, .slice ad17 n17 c17, .slice ae17 m17 d17] := hd _ 18 (Array.mem_of_getElem? (i := 0) rfl) rfl rfl
    have e19 : a'.tmps.getD 19 undef = .agg #[.bool b17, .slice ad17 n17 c17, .slice ae17 m17 d17] := hd _ 19 (Array.mem_of_getElem? (i := 1) rfl) rfl rfl
    refine if_does (wanted_free rfl) (Does.calls (r_call Tryd.func27 en27.1 en27.2 (map2 e18 e19)) (rMul_any _ _ (sof ((((rawZ nega1 xa1 3 : Int) : Rat) / ((rawZ negb1 xb1 3 : Int) : Rat)) + ((90 : Int) : Rat))) (sof ((((rawZ nega1 xa1 3 : Int) : Rat) / ((rawZ negb1 xb1 3 : Int) : Rat)) + ((90 : Int) : Rat))) (4 * (3 + 2 + 1) + 60) _ (hh14.below hb) (hh14.below hb) ((sof_lim (rlim_add (own5_lim nega1 negb1 oka1 okb1 3 (by decide)) (lim64 (by decide) (by decide)))).up _ (by omega)) ((sof_lim (rlim_add (own5_lim nega1 negb1 oka1 okb1 3 (by decide)) (lim64 (by decide) (by decide)))).up _ (by omega)) (by omega)) ?_)
    rintro e w'' ⟨v', rfl, h', bb⟩
    exact ⟨_, rfl, h', bb, (fun h => absurd h (by decide))⟩
  · intro a' w' hF' hb hd
    obtain ⟨v17_0, e17, h17_1⟩ : ∃ v, a'.tmps.getD 17 undef = v ∧ Rq w' v ((sof (((rawZ nega1 xa1 3 : Int) : Rat) / ((rawZ negb1 xb1 3 : Int) : Rat))) * (sof (((rawZ nega1 xa1 3 : Int) : Rat) / ((rawZ negb1 xb1 3 : Int) : Rat)))) := ⟨_, rfl, hd _ 17 (Array.mem_of_getElem? (i := 0) rfl) rfl rfl⟩
    obtain ⟨v20_0, e20, h20_1⟩ : ∃ v, a'.tmps.getD 20 undef = v ∧ Rq w' v ((sof ((((rawZ nega1 xa1 3 : Int) : Rat) / ((rawZ negb1 xb1 3 : Int) : Rat)) + ((90 : Int) : Rat))) * (sof ((((rawZ nega1 xa1 3 : Int) : Rat) / ((rawZ negb1 xb1 3 : Int) : Rat)) + ((90 : Int) : Rat)))) := ⟨_, rfl, hd _ 20 (Array.mem_of_getElem? (i := 1) rfl) rfl rfl⟩
    refine if_does (wanted_free rfl) (Does.calls (r_call Tryd.func25 en25.1 en25.2 (map2 e17 e20)) (rAdd_any _ _ ((sof (((rawZ nega1 xa1 3 : Int) : Rat) / ((rawZ negb1 xb1 3 : Int) : Rat))) * (sof (((rawZ nega1 xa1 3 : Int) : Rat) / ((rawZ negb1 xb1 3 : Int) : Rat)))) ((sof ((((rawZ nega1 xa1 3 : Int) : Rat) / ((rawZ negb1 xb1 3 : Int) : Rat)) + ((90 : Int) : Rat))) * (sof ((((rawZ nega1 xa1 3 : Int) : Rat) / ((rawZ negb1 xb1 3 : Int) : Rat)) + ((90 : Int) : Rat)))) (max ((4 * 3 + 60) + (4 * 3 + 60)) ((4 * (3 + 2 + 1) + 60) + (4 * (3 + 2 + 1) + 60))) _ h17_1 h20_1 ((rlim_mul (sof_lim (own5_lim nega1 negb1 oka1 okb1 3 (by decide))) (sof_lim (own5_lim nega1 negb1 oka1 okb1 3 (by decide)))).up _ (by omega)) ((rlim_mul (sof_lim (rlim_add (own5_lim nega1 negb1 oka1 okb1 3 (by decide)) (lim64 (by decide) (by decide)))) (sof_lim (rlim_add (own5_lim nega1 negb1 oka1 okb1 3 (by decide)) (lim64 (by decide) (by decide))))).up _ (by omega)) (by omega)) ?_)
    rintro e w'' ⟨v', rfl, h', bb⟩
    exact ⟨_, rfl, h', bb, (fun h => absurd h (by decide))⟩
  · intro a' w' hF' hb hd
    refine if_does (wanted_free rfl) (Does.calls (r_call Tryd.func26 en26.1 en26.2 (map1 ev_c)) (rWhole_any (1) _ (by decide) (by decide)) ?_)
    rintro e w'' ⟨v', rfl, h', bb⟩
    exact ⟨_, rfl, h', bb, (fun h => absurd h (by decide))⟩
  · intro a' w' hF' hb hd
    obtain ⟨v21_0, e21, h21_1⟩ : ∃ v, a'.tmps.getD 21 undef = v ∧ Rq w' v (((sof (((rawZ nega1 xa1 3 : Int) : Rat) / ((rawZ negb1 xb1 3 : Int) : Rat))) * (sof (((rawZ nega1 xa1 3 : Int) : Rat) / ((rawZ negb1 xb1 3 : Int) : Rat)))) + ((sof ((((rawZ nega1 xa1 3 : Int) : Rat) / ((rawZ negb1 xb1 3 : Int) : Rat)) + ((90 : Int) : Rat))) * (sof ((((rawZ nega1 xa1 3 : Int) : Rat) / ((rawZ negb1 xb1 3 : Int) : Rat)) + ((90 : Int) : Rat))))) := ⟨_, rfl, hd _ 21 (Array.mem_of_getElem? (i := 0) rfl) rfl rfl⟩
    obtain ⟨v22_0, e22, h22_1⟩ : ∃ v, a'.tmps.getD 22 undef = v ∧ Rq w' v (((1 : Int) : Rat)) := ⟨_, rfl, hd _ 22 (Array.mem_of_getElem? (i := 1) rfl) rfl rfl⟩
    refine if_does (wanted_free rfl) (Does.calls (r_call Tryd.func30 en30.1 en30.2 (map2 e21 e22)) (rSub_any _ _ (((sof (((rawZ nega1 xa1 3 : Int) : Rat) / ((rawZ negb1 xb1 3 : Int) : Rat))) * (sof (((rawZ nega1 xa1 3 : Int) : Rat) / ((rawZ negb1 xb1 3 : Int) : Rat)))) + ((sof ((((rawZ nega1 xa1 3 : Int) : Rat) / ((rawZ negb1 xb1 3 : Int) : Rat)) + ((90 : Int) : Rat))) * (sof ((((rawZ nega1 xa1 3 : Int) : Rat) / ((rawZ negb1 xb1 3 : Int) : Rat)) + ((90 : Int) : Rat))))) (((1 : Int) : Rat)) (max (((4 * 3 + 60) + (4 * 3 + 60)) + ((4 * (3 + 2 + 1) + 60) + (4 * (3 + 2 + 1) + 60)) + 1) 2) _ h21_1 h22_1 ((rlim_add (rlim_mul (sof_lim (own5_lim nega1 negb1 oka1 okb1 3 (by decide))) (sof_lim (own5_lim nega1 negb1 oka1 okb1 3 (by decide)))) (rlim_mul (sof_lim (rlim_add (own5_lim nega1 negb1 oka1 okb1 3 (by decide)) (lim64 (by decide) (by decide)))) (sof_lim (rlim_add (own5_lim nega1 negb1 oka1 okb1 3 (by decide)) (lim64 (by decide) (by decide)))))).up _ (by omega)) ((rlim_int (limz_64 (by decide) (by decide)) (by omega)).up _ (by omega)) (by omega)) ?_)
    rintro e w'' ⟨v', rfl, h', bb⟩
    exact ⟨_, rfl, h', bb, (fun h => absurd h (by decide))⟩
  · intro a' w' hF' hb hd
    obtain ⟨v23_0, e23, h23_1⟩ : ∃ v, a'.tmps.getD 23 undef = v ∧ Rq w' v ((((sof (((rawZ nega1 xa1 3 : Int) : Rat) / ((rawZ negb1 xb1 3 : Int) : Rat))) * (sof (((rawZ nega1 xa1 3 : Int) : Rat) / ((rawZ negb1 xb1 3 : Int) : Rat)))) + ((sof ((((rawZ nega1 xa1 3 : Int) : Rat) / ((rawZ negb1 xb1 3 : Int) : Rat)) + ((90 : Int) : Rat))) * (sof ((((rawZ nega1 xa1 3 : Int) : Rat) / ((rawZ negb1 xb1 3 : Int) : Rat)) + ((90 : Int) : Rat))))) - (((1 : Int) : Rat))) := ⟨_, rfl, hd _ 23 (Array.mem_of_getElem? (i := 0) rfl) rfl rfl⟩
    refine if_does (wanted_free rfl) (Does.calls (r_call Tryd.func33 en33.1 en33.2 (map1 e23)) (rAbs_any _ ((((sof (((rawZ nega1 xa1 3 : Int) : Rat) / ((rawZ negb1 xb1 3 : Int) : Rat))) * (sof (((rawZ nega1 xa1 3 : Int) : Rat) / ((rawZ negb1 xb1 3 : Int) : Rat)))) + ((sof ((((rawZ nega1 xa1 3 : Int) : Rat) / ((rawZ negb1 xb1 3 : Int) : Rat)) + ((90 : Int) : Rat))) * (sof ((((rawZ nega1 xa1 3 : Int) : Rat) / ((rawZ negb1 xb1 3 : Int) : Rat)) + ((90 : Int) : Rat))))) - (((1 : Int) : Rat))) _ h23_1) ?_)
    rintro e w'' ⟨v', rfl, h', bb⟩
    exact ⟨_, rfl, h', bb, (fun h => absurd h (by decide))⟩
  · intro a' w' hF' hb hd
    refine if_does (wanted_free rfl) (Does.calls (r_call Tryd.func35 en35.1 en35.2 (map2 ev_c ev_c)) (rOf2_any (1) (500) _ (by decide) (by decide) (by decide) (by decide)) ?_)
    rintro e w'' ⟨v', rfl, h', bb⟩
    exact ⟨_, rfl, h', bb, (fun h => absurd h (by decide))⟩
  · intro a' w' hF' hb hd
    obtain ⟨v24_0, e24, h24_1⟩ : ∃ v, a'.tmps.getD 24 undef = v ∧ Rq w' v (Rat.abs ((((sof (((rawZ nega1 xa1 3 : Int) : Rat) / ((rawZ negb1 xb1 3 : Int) : Rat))) * (sof (((rawZ nega1 xa1 3 : Int) : Rat) / ((rawZ negb1 xb1 3 : Int) : Rat)))) + ((sof ((((rawZ nega1 xa1 3 : Int) : Rat) / ((rawZ negb1 xb1 3 : Int) : Rat)) + ((90 : Int) : Rat))) * (sof ((((rawZ nega1 xa1 3 : Int) : Rat) / ((rawZ negb1 xb1 3 : Int) : Rat)) + ((90 : Int) : Rat))))) - (((1 : Int) : Rat)))) := ⟨_, rfl, hd _ 24 (Array.mem_of_getElem? (i := 0) rfl) rfl rfl⟩
    obtain ⟨v25_0, e25, h25_1⟩ : ∃ v, a'.tmps.getD 25 undef = v ∧ Rq w' v (((1 : Int) : Rat) / ((500 : Int) : Rat)) := ⟨_, rfl, hd _ 25 (Array.mem_of_getElem? (i := 1) rfl) rfl rfl⟩
    refine if_does (wanted_free rfl) (Does.calls (r_call Tryd.func34 en34.1 en34.2 (map2 e24 e25)) (rCmp_any _ _ (Rat.abs ((((sof (((rawZ nega1 xa1 3 : Int) : Rat) / ((rawZ negb1 xb1 3 : Int) : Rat))) * (sof (((rawZ nega1 xa1 3 : Int) : Rat) / ((rawZ negb1 xb1 3 : Int) : Rat)))) + ((sof ((((rawZ nega1 xa1 3 : Int) : Rat) / ((rawZ negb1 xb1 3 : Int) : Rat)) + ((90 : Int) : Rat))) * (sof ((((rawZ nega1 xa1 3 : Int) : Rat) / ((rawZ negb1 xb1 3 : Int) : Rat)) + ((90 : Int) : Rat))))) - (((1 : Int) : Rat)))) (((1 : Int) : Rat) / ((500 : Int) : Rat)) (max ((((4 * 3 + 60) + (4 * 3 + 60)) + ((4 * (3 + 2 + 1) + 60) + (4 * (3 + 2 + 1) + 60)) + 1) + 2 + 1) 2) _ h24_1 h25_1 ((rlim_abs (rlim_sub (rlim_add (rlim_mul (sof_lim (own5_lim nega1 negb1 oka1 okb1 3 (by decide))) (sof_lim (own5_lim nega1 negb1 oka1 okb1 3 (by decide)))) (rlim_mul (sof_lim (rlim_add (own5_lim nega1 negb1 oka1 okb1 3 (by decide)) (lim64 (by decide) (by decide)))) (sof_lim (rlim_add (own5_lim nega1 negb1 oka1 okb1 3 (by decide)) (lim64 (by decide) (by decide)))))) (rlim_int (limz_64 (by decide) (by decide)) (by omega)))).up _ (by omega)) ((RLim.up (rlim_mk2 (limz_64 (by decide) (by decide)) (limz_64 (by decide) (by decide))) 2 (by decide)).up _ (by omega)) (by omega)) ?_)
    rintro e w'' ⟨rfl, bb⟩
    exact ⟨_, rfl, rfl, bb, (fun h => absurd h (by decide))⟩
  · intro a' w' hF' hb hd
    have e26 : a'.tmps.getD 26 undef = .int .i64 (qc (Rat.abs ((((sof (((rawZ nega1 xa1 3 : Int) : Rat) / ((rawZ negb1 xb1 3 : Int) : Rat))) * (sof (((rawZ nega1 xa1 3 : Int) : Rat) / ((rawZ negb1 xb1 3 : Int) : Rat)))) + ((sof ((((rawZ nega1 xa1 3 : Int) : Rat) / ((rawZ negb1 xb1 3 : Int) : Rat)) + ((90 : Int) : Rat))) * (sof ((((rawZ nega1 xa1 3 : Int) : Rat) / ((rawZ negb1 xb1 3 : Int) : Rat)) + ((90 : Int) : Rat))))) - (((1 : Int) : Rat)))) (((1 : Int) : Rat) / ((500 : Int) : Rat))) := hd _ 26 (Array.mem_of_getElem? (i := 0) rfl) rfl rfl
    exact if_does (wanted_free rfl) (Does.vals (r_bin e26 ev_c eg_scalar (bi_int (ic_gtr (c := false) (dec_ff (qc_no (circ_near _)))) (by simp))) ⟨rfl, Below.refl _ _, (fun h => absurd h (by decide))⟩)
  intro a w21 hF bb hall hne
  have e27 : a.tmps.getD 27 undef = .bool false := hall 12 27 rfl
  clear hall hne
  replace hf16 := hf16.below bb
  replace hd15 := hd15.below bb
  replace hh12 := hh12.below bb
  replace hn15 := hn15.below bb
  replace hf18 := hf18.below bb
  replace hd17 := hd17.below bb
  replace hh14 := hh14.below bb
  replace hn17 := hn17.below bb
  replace o4 := o4.below bb
  replace o5 := o5.below bb
  replace bel := below_to bel bb
  clear bb
  replace hF := hF.add e27
  clear e27
  refine E.nil ?_
  refine wp_cond_false (hF.at 0 rfl) ?_
  refine wp_skip ?_
  refine E.norm ?_
  refine wp_seq ?_
  refine E.seq ?_
  refine E.opv hF (r_load (hF.at 2 rfl) (ld_Rat (vs := [.bool b15, .slice ad15 n15 c15, .slice ae15 m15 d15]) o4 rfl rfl)) rfl rfl rfl rfl fun a hF => ?_
  refine E.call hF (r_call Tryd.func32 en32.1 en32.2 (map1 (hF.at 0 rfl))) (sarc_any _ (sof (((rawZ nega1 xa1 3 : Int) : Rat) / ((rawZ negb1 xb1 3 : Int) : Rat))) (4 * 3 + 60) _ (hT.below bel) hh12 (sof_lim (own5_lim nega1 negb1 oka1 okb1 3 (by decide))) (by omega)) rfl rfl rfl rfl ?_
  rintro e w22 ⟨vv23, rfl, hh24, bb⟩
  refine ⟨_, rfl, ?_⟩
  intro a hF
  replace hf16 := hf16.below bb
  replace hd15 := hd15.below bb
  replace hh12 := hh12.below bb
  replace hn15 := hn15.below bb
  replace hf18 := hf18.below bb
  replace hd17 := hd17.below bb
  replace hh14 := hh14.below bb
  replace hn17 := hn17.below bb
  replace o4 := o4.below bb
  replace o5 := o5.below bb
  replace bel := below_to bel bb
  clear bb
  obtain ⟨b25, ad25, n25, c25, ae25, m25, d25, rfl, hn25, hd25⟩ := Rq.shape hh24
  have hf26 := Wc.abs hn25
  obtain ⟨g6, w27, ge6, hr, bb, o6⟩ := own_alloc (P := Tryd.prog) (w := w22) (cs := [.bool false, .slice none 0 0, .slice none 0 0]) 42 ze_Rat rfl (niB (niS (niS ni0)))
  have ne4_6 : g4 ≠ g6 := by rw [← ge6]; exact o4.ne_new
  have ne5_6 : g5 ≠ g6 := by rw [← ge6]; exact o5.ne_new
  replace ge6 : w.heap.size ≤ g6 := by rw [← ge6]; exact bel.size
  refine E.opv hF (r_alloc hr) rfl rfl rfl rfl fun a hF => ?_
  clear hr
  replace hh24 := hh24.below bb
  replace hn25 := hn25.below bb
  replace hf26 := hf26.below bb
  replace hd25 := hd25.below bb
  replace hf16 := hf16.below bb
  replace hd15 := hd15.below bb
  replace hh12 := hh12.below bb
  replace hn15 := hn15.below bb
  replace hf18 := hf18.below bb
  replace hd17 := hd17.below bb
  replace hh14 := hh14.below bb
  replace hn17 := hn17.below bb
  replace o4 := o4.below bb
  replace o5 := o5.below bb
  replace bel := below_to bel bb
  clear bb
  obtain ⟨w28, hr, tu, on⟩ := st_Rat (vs := [.bool b25, .slice ad25 n25 c25, .slice ae25 m25 d25]) o6 rfl rfl (ocB (ocS (ocS oc0))) (niB (niS (niS ni0))) (o := 0) rfl
  have kp := tu.keep o6
  refine E.st hF (r_store (hF.at 0 rfl) (hF.at 1 rfl) (hr _ rfl)) rfl rfl fun a hF => ?_
  clear hr
  replace hf16 := hf16.keep kp
  replace hd15 := hd15.keep kp
  replace hh12 := hh12.keep kp
  replace hn15 := hn15.keep kp
  replace hf18 := hf18.keep kp
  replace hd17 := hd17.keep kp
  replace hh14 := hh14.keep kp
  replace hn17 := hn17.keep kp
  replace hh24 := hh24.keep kp
  replace hn25 := hn25.keep kp
  replace hf26 := hf26.keep kp
  replace hd25 := hd25.keep kp
  replace o4 := tu.own o4 ne4_6
  replace o5 := tu.own o5 ne5_6
  replace bel := tu.below bel ge6
  clear tu kp
  replace o6 := on
  clear on
  refine E.nil ?_
  refine wp_seq ?_
  refine E.drawn 11 mixed hF [30, 31, 32, 33, 34, 35, 36, 37, 38, 39, 40] [(fun _ v => v = .agg #[.bool b25, .slice ad25 n25 c25, .slice ae25 m25 d25]), (fun w v => Rq w v (sof (arcv (sof (((rawZ nega1 xa1 3 : Int) : Rat) / ((rawZ negb1 xb1 3 : Int) : Rat)))))), (fun _ v => v = .agg #[.bool b15, .slice ad15 n15 c15, .slice ae15 m15 d15]), (fun _ v => v = .bool true), (fun _ v => v = .bool true), (fun _ v => v = .agg #[.bool b25, .slice ad25 n25 c25, .slice ae25 m25 d25]), (fun w v => Rq w v (sof ((arcv (sof (((rawZ nega1 xa1 3 : Int) : Rat) / ((rawZ negb1 xb1 3 : Int) : Rat)))) + ((90 : Int) : Rat)))), (fun _ v => v = .agg #[.bool b17, .slice ad17 n17 c17, .slice ae17 m17 d17]), (fun w v => Rq w v (Rat.abs (sof ((((rawZ nega1 xa1 3 : Int) : Rat) / ((rawZ negb1 xb1 3 : Int) : Rat)) + ((90 : Int) : Rat))))), (fun _ v => v = .bool true), (fun _ v => v = .bool true)] [] (by decide +kernel) (by decide +kernel) rfl rfl rfl ⟨(Mb.eq _), (fun _ _ _ h hb => h.below hb), (Mb.eq _), (Mb.eq _), (Mb.eq _), (Mb.eq _), (fun _ _ _ h hb => h.below hb), (Mb.eq _), (fun _ _ _ h hb => h.below hb), (Mb.eq _), (Mb.eq _), trivial⟩ trivial ⟨?_, ?_, ?_, ?_, ?_, ?_, ?_, ?_, ?_, ?_, ?_, trivial⟩ ?_
  · intro a' w' hF' hb hd
    exact if_does (wanted_free rfl) (Does.vals (r_load (hF'.at 0 rfl) (ld_Rat (vs := [.bool b25, .slice ad25 n25 c25, .slice ae25 m25 d25]) (o6.below hb) rfl rfl)) ⟨rfl, Below.refl _ _, (fun h => absurd h (by decide))⟩)
  · intro a' w' hF' hb hd
    have e30 : a'.tmps.getD 30 undef = .agg #[.bool b25, .slice ad25 n25 c25, .slice ae25 m25 d25] := hd _ 30 (Array.mem_of_getElem? (i := 0) rfl) rfl rfl
    refine if_does (wanted_free rfl) (Does.calls (r_call Tryd.func24 en24.1 en24.2 (map1 e30)) (sof_any _ (arcv (sof (((rawZ nega1 xa1 3 : Int) : Rat) / ((rawZ negb1 xb1 3 : Int) : Rat)))) ((4 * 3 + 60) + 20) _ (hT.below (below_to bel hb)) (hh24.below hb) (arcv_lim (sof_lim (own5_lim nega1 negb1 oka1 okb1 3 (by decide)))) (by omega)) ?_)
    rintro e w'' ⟨v', rfl, h', bb⟩
    exact ⟨_, rfl, h', bb, (fun h => absurd h (by decide))⟩
  · intro a' w' hF' hb hd
    exact if_does (wanted_free rfl) (Does.vals (r_load (hF'.at 5 rfl) (ld_Rat (vs := [.bool b15, .slice ad15 n15 c15, .slice ae15 m15 d15]) (o4.below hb) rfl rfl)) ⟨rfl, Below.refl _ _, (fun h => absurd h (by decide))⟩)
  · intro a' w' hF' hb hd
    obtain ⟨v31_0, e31, h31_1⟩ : ∃ v, a'.tmps.getD 31 undef = v ∧ Rq w' v (sof (arcv (sof (((rawZ nega1 xa1 3 : Int) : Rat) / ((rawZ negb1 xb1 3 : Int) : Rat))))) := ⟨_, rfl, hd _ 31 (Array.mem_of_getElem? (i := 0) rfl) rfl rfl⟩
    have e32 : a'.tmps.getD 32 undef = .agg #[.bool b15, .slice ad15 n15 c15, .slice ae15 m15 d15] := hd _ 32 (Array.mem_of_getElem? (i := 1) rfl) rfl rfl
    refine if_does (wanted_free rfl) (Does.calls (r_call Tryd.func28 en28.1 en28.2 (map2 e31 e32)) (rSame_true _ _ (sof (arcv (sof (((rawZ nega1 xa1 3 : Int) : Rat) / ((rawZ negb1 xb1 3 : Int) : Rat))))) (sof (((rawZ nega1 xa1 3 : Int) : Rat) / ((rawZ negb1 xb1 3 : Int) : Rat))) _ h31_1 (hh12.below hb) (arc_circ _).1) ?_)
    rintro e w'' ⟨rfl, bb⟩
    exact ⟨_, rfl, rfl, bb, (fun h => absurd h (by decide))⟩
  · intro a' w' hF' hb hd
    have e33 : a'.tmps.getD 33 undef = .bool true := hd _ 33 (Array.mem_of_getElem? (i := 0) rfl) rfl rfl
    exact if_does (wanted_free rfl) (Does.vals (r_move e33) ⟨rfl, Below.refl _ _, (fun h => absurd h (by decide))⟩)
  · intro a' w' hF' hb hd
    have e34 : a'.tmps.getD 34 undef = .bool true := hd _ 34 (Array.mem_of_getElem? (i := 0) rfl) rfl rfl
    exact if_does (wanted_by rfl rfl e34 rfl) (Does.vals (r_load (hF'.at 0 rfl) (ld_Rat (vs := [.bool b25, .slice ad25 n25 c25, .slice ae25 m25 d25]) (o6.below hb) rfl rfl)) ⟨rfl, Below.refl _ _, (fun h => absurd h (by decide))⟩)
  · intro a' w' hF' hb hd
    have e34 : a'.tmps.getD 34 undef = .bool true := hd _ 34 (Array.mem_of_getElem? (i := 1) rfl) rfl rfl
    have e35 : a'.tmps.getD 35 undef = .agg #[.bool b25, .slice ad25 n25 c25, .slice ae25 m25 d25] := hd _ 35 (Array.mem_of_getElem? (i := 0) rfl) rfl rfl
    refine if_does (wanted_by rfl rfl e34 rfl) (Does.calls (r_call Tryd.func37 en37.1 en37.2 (map1 e35)) (scos_any _ (arcv (sof (((rawZ nega1 xa1 3 : Int) : Rat) / ((rawZ negb1 xb1 3 : Int) : Rat)))) ((4 * 3 + 60) + 20) _ (hT.below (below_to bel hb)) (hh24.below hb) (arcv_lim (sof_lim (own5_lim nega1 negb1 oka1 okb1 3 (by decide)))) (by omega)) ?_)
    rintro e w'' ⟨v', rfl, h', bb⟩
    exact ⟨_, rfl, h', bb, (fun h => absurd h (by decide))⟩
  · intro a' w' hF' hb hd
    have e34 : a'.tmps.getD 34 undef = .bool true := hd _ 34 (Array.mem_of_getElem? (i := 0) rfl) rfl rfl
    exact if_does (wanted_by rfl rfl e34 rfl) (Does.vals (r_load (hF'.at 4 rfl) (ld_Rat (vs := [.bool b17, .slice ad17 n17 c17, .slice ae17 m17 d17]) (o5.below hb) rfl rfl)) ⟨rfl, Below.refl _ _, (fun h => absurd h (by decide))⟩)
  · intro a' w' hF' hb hd
    have e34 : a'.tmps.getD 34 undef = .bool true := hd _ 34 (Array.mem_of_getElem? (i := 2) rfl) rfl rfl
    have e37 : a'.tmps.getD 37 undef = .agg #[.bool b17, .slice ad17 n17 c17, .slice ae17 m17 d17] := hd _ 37 (Array.mem_of_getElem? (i := 0) rfl) rfl rfl
    refine if_does (wanted_by rfl rfl e34 rfl) (Does.calls (r_call Tryd.func33 en33.1 en33.2 (map1 e37)) (rAbs_any _ (sof ((((rawZ nega1 xa1 3 : Int) : Rat) / ((rawZ negb1 xb1 3 : Int) : Rat)) + ((90 : Int) : Rat))) _ (hh14.below hb)) ?_)
    rintro e w'' ⟨v', rfl, h', bb⟩
    exact ⟨_, rfl, h', bb, (fun h => absurd h (by decide))⟩
  · intro a' w' hF' hb hd
    have e34 : a'.tmps.getD 34 undef = .bool true := hd _ 34 (Array.mem_of_getElem? (i := 3) rfl) rfl rfl
    obtain ⟨v36_0, e36, h36_1⟩ : ∃ v, a'.tmps.getD 36 undef = v ∧ Rq w' v (sof ((arcv (sof (((rawZ nega1 xa1 3 : Int) : Rat) / ((rawZ negb1 xb1 3 : Int) : Rat)))) + ((90 : Int) : Rat))) := ⟨_, rfl, hd _ 36 (Array.mem_of_getElem? (i := 0) rfl) rfl rfl⟩
    obtain ⟨v38_0, e38, h38_1⟩ : ∃ v, a'.tmps.getD 38 undef = v ∧ Rq w' v (Rat.abs (sof ((((rawZ nega1 xa1 3 : Int) : Rat) / ((rawZ negb1 xb1 3 : Int) : Rat)) + ((90 : Int) : Rat)))) := ⟨_, rfl, hd _ 38 (Array.mem_of_getElem? (i := 1) rfl) rfl rfl⟩
    refine if_does (wanted_by rfl rfl e34 rfl) (Does.calls (r_call Tryd.func28 en28.1 en28.2 (map2 e36 e38)) (rSame_true _ _ (sof ((arcv (sof (((rawZ nega1 xa1 3 : Int) : Rat) / ((rawZ negb1 xb1 3 : Int) : Rat)))) + ((90 : Int) : Rat))) (Rat.abs (sof ((((rawZ nega1 xa1 3 : Int) : Rat) / ((rawZ negb1 xb1 3 : Int) : Rat)) + ((90 : Int) : Rat)))) _ h36_1 h38_1 (arc_circ _).2) ?_)
    rintro e w'' ⟨rfl, bb⟩
    exact ⟨_, rfl, rfl, bb, (fun h => absurd h (by decide))⟩
  · intro a' w' hF' hb hd
    have e34 : a'.tmps.getD 34 undef = .bool true := hd _ 34 (Array.mem_of_getElem? (i := 0) rfl) rfl rfl
    have e39 : a'.tmps.getD 39 undef = .bool true := hd _ 39 (Array.mem_of_getElem? (i := 1) rfl) rfl rfl
    exact if_does (wanted_free rfl) (Does.vals (r_pick_t e34 e39) ⟨rfl, Below.refl _ _, (fun h => absurd h (by decide))⟩)
  intro a w29 hF bb hall hne
  have e40 : a.tmps.getD 40 undef = .bool true := hall 10 40 rfl
  clear hall hne
  replace bel := below_to bel bb
  clear bb
  replace hF := hF.add e40
  clear e40
  refine E.opset (L' := [(2, .bool true), (40, .bool true), (6, .pointer (some ⟨g6, 0, none⟩)), (29, .agg #[.bool b25, .slice ad25 n25 c25, .slice ae25 m25 d25]), (28, .agg #[.bool b15, .slice ad15 n15 c15, .slice ae15 m15 d15]), (27, .bool false), (5, .pointer (some ⟨g5, 0, none⟩)), (4, .pointer (some ⟨g4, 0, none⟩)), (14, .agg #[.bool b17, .slice ad17 n17 c17, .slice ae17 m17 d17]), (12, .agg #[.bool b15, .slice ad15 n15 c15, .slice ae15 m15 d15]), (3, .pointer (some ⟨g3, 0, none⟩)), (10, .agg #[.bool b6, .slice ad6 n6 c6, .slice ae6 m6 d6]), (9, .agg #[.bool nega1, .slice aa1 na1 ca1, .bool negb1, .slice ab1 nb1 cb1]), (8, .bool false), (7, .bool true), (1, .pointer (some ⟨g1, 0, none⟩)), (0, .agg #[.bool nega1, .slice aa1 na1 ca1, .bool negb1, .slice ab1 nb1 cb1])]) hF (r_assign (hF.at 0 rfl)) rfl rfl rfl rfl fun a hF => ?_
  refine E.nil ?_
  refine wp_ret ?_
  refine bodyPost_ret (res_tmp Tryd.results10 (hF.at 0 rfl)) hF.dfr ?_
  exact ⟨rfl, bel⟩

end Go.Proofs.YteafnboehmfmiaaDoor
