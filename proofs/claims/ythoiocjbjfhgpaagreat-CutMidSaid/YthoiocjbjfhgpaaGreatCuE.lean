/- CutMid. -/
import Derived.Test.YthoiocjbjfhgpaaGreatCuD
namespace Go.Proofs.YthoiocjbjfhgpaaGreat
open Go.RowKit
set_option maxRecDepth 100000
set_option linter.unusedVariables false

set_option maxHeartbeats 8000000 in
theorem cutMid_walk (nega1 : Bool) (aa1 : Option Addr) (na1 ca1 : Nat) (xa1 : List Nat) (negb1 : Bool) (ab1 : Option Addr) (nb1 cb1 : Nat) (xb1 : List Nat) (nega2 : Bool) (aa2 : Option Addr) (na2 ca2 : Nat) (xa2 : List Nat) (negb2 : Bool) (ab2 : Option Addr) (nb2 cb2 : Nat) (xb2 : List Nat) (w : World) (hM : MLen w) (ia1 : InX w aa1 na1 ca1 xa1) (ib1 : InX w ab1 nb1 cb1 xb1) (ia2 : InX w aa2 na2 ca2 xa2) (ib2 : InX w ab2 nb2 cb2 xb2) :
    Calls Tryz.prog 6 #[.agg #[.bool nega1, .slice aa1 na1 ca1, .bool negb1, .slice ab1 nb1 cb1], .agg #[.bool nega2, .slice aa2 na2 ca2, .bool negb2, .slice ab2 nb2 cb2]] w (ValPost w (.bool true)) := by
  have oka1 := ia1.ok
  have okb1 := ib1.ok
  have oka2 := ia2.ok
  have okb2 := ib2.ok
  have bel : Below w.heap.size w w := Below.refl _ _
  refine E.enter (nt := 43) (L := [(0, .agg #[.bool nega1, .slice aa1 na1 ca1, .bool negb1, .slice ab1 nb1 cb1]), (1, .agg #[.bool nega2, .slice aa2 na2 ca2, .bool negb2, .slice ab2 nb2 cb2])]) Tryz.func6 rfl rfl rfl (args_cons (i := 0) rfl (args_cons (i := 1) rfl args_nil)) ?_
  intro a hF
  refine wp_seq ?_
  refine E.seq ?_
  obtain ⟨g2, w1, ge2, hr, bb, o2⟩ := own_box (P := Tryz.prog) (w := w) (cs := [.bool nega1, .slice aa1 na1 ca1, .bool negb1, .slice ab1 nb1 cb1]) (v := .agg #[.bool nega1, .slice aa1 na1 ca1, .bool negb1, .slice ab1 nb1 cb1]) 26 rfl (niB (niS (niB (niS ni0))))
  replace ge2 : w.heap.size ≤ g2 := by rw [← ge2]; exact bel.size
  refine E.opv hF (r_box (hF.at 0 rfl) hr) rfl rfl rfl rfl fun a hF => ?_
  clear hr
  replace ia2 := ia2.below bb
  replace ib2 := ib2.below bb
  replace ia1 := ia1.below bb
  replace ib1 := ib1.below bb
  replace bel := below_to bel bb
  clear bb
  obtain ⟨g3, w2, ge3, hr, bb, o3⟩ := own_box (P := Tryz.prog) (w := w1) (cs := [.bool nega2, .slice aa2 na2 ca2, .bool negb2, .slice ab2 nb2 cb2]) (v := .agg #[.bool nega2, .slice aa2 na2 ca2, .bool negb2, .slice ab2 nb2 cb2]) 26 rfl (niB (niS (niB (niS ni0))))
  have ne2_3 : g2 ≠ g3 := by rw [← ge3]; exact o2.ne_new
  replace ge3 : w.heap.size ≤ g3 := by rw [← ge3]; exact bel.size
  refine E.opv hF (r_box (hF.at 2 rfl) hr) rfl rfl rfl rfl fun a hF => ?_
  clear hr
  replace ia1 := ia1.below bb
  replace ib1 := ib1.below bb
  replace ia2 := ia2.below bb
  replace ib2 := ib2.below bb
  replace o2 := o2.below bb
  replace bel := below_to bel bb
  clear bb
  refine E.opv hF (r_assign ev_c) rfl rfl rfl rfl fun a hF => ?_
  refine E.nil ?_
  refine wp_seq ?_
  refine wp_seq ?_
  refine E.seq ?_
  refine E.call hF (r_call Tryz.func9 en9.1 en9.2 map0) (awake6_any _ (hM.below bel)) rfl rfl rfl rfl ?_
  rintro e w3 ⟨rfl, bb⟩
  refine ⟨_, rfl, ?_⟩
  intro a hF
  replace ia1 := ia1.below bb
  replace ib1 := ib1.below bb
  replace ia2 := ia2.below bb
  replace ib2 := ib2.below bb
  replace o2 := o2.below bb
  replace o3 := o3.below bb
  replace bel := below_to bel bb
  clear bb
  refine E.opv hF (r_un (hF.at 0 rfl) (bn_not _ false rfl)) rfl rfl rfl rfl fun a hF => ?_
  refine E.nil ?_
  refine wp_cond_false (hF.at 0 rfl) ?_
  refine wp_skip ?_
  refine E.norm ?_
  refine wp_seq ?_
  refine E.drawn 6 mixed hF [10, 11, 12, 13, 5, 6] [(fun _ v => v = .agg #[.bool nega1, .slice aa1 na1 ca1, .bool negb1, .slice ab1 nb1 cb1]), (fun w v => Rq w v (((rawZ nega1 xa1 5 : Int) : Rat) / ((rawZ negb1 xb1 5 : Int) : Rat))), (fun _ v => v = .agg #[.bool nega2, .slice aa2 na2 ca2, .bool negb2, .slice ab2 nb2 cb2]), (fun w v => Rq w v (((rawZ nega2 xa2 5 : Int) : Rat) / ((rawZ negb2 xb2 5 : Int) : Rat))), (fun w v => ∃ g, v = .pointer (some ⟨g, 0, none⟩) ∧ w3.heap.size ≤ g ∧ Own w g [.bool false, .slice none 0 0, .slice none 0 0]), (fun w v => ∃ g, v = .pointer (some ⟨g, 0, none⟩) ∧ w3.heap.size ≤ g ∧ Own w g [.bool false, .slice none 0 0, .slice none 0 0])] [4, 5] (by decide +kernel) (by decide +kernel) rfl rfl rfl ⟨(Mb.eq _), (fun _ _ _ h hb => h.below hb), (Mb.eq _), (fun _ _ _ h hb => h.below hb), (fun _ _ _ ⟨g, e, l, o⟩ hb => ⟨g, e, l, o.below hb⟩), (fun _ _ _ ⟨g, e, l, o⟩ hb => ⟨g, e, l, o.below hb⟩), trivial⟩ ⟨fun _ _ ⟨g, e, _, o⟩ => ⟨g, e, o.lt⟩, ⟨fun _ _ ⟨g, e, _, o⟩ => ⟨g, e, o.lt⟩, trivial⟩⟩ ⟨?_, ?_, ?_, ?_, ?_, ?_, trivial⟩ ?_
  · intro a' w' hF' hb hd
    exact if_does (wanted_free rfl) (Does.vals (r_load (hF'.at 4 rfl) (ld_Raw5 (vs := [.bool nega1, .slice aa1 na1 ca1, .bool negb1, .slice ab1 nb1 cb1]) (o2.below hb) rfl rfl)) ⟨rfl, Below.refl _ _, (fun h => absurd h (by decide))⟩)
  · intro a' w' hF' hb hd
    have e10 : a'.tmps.getD 10 undef = .agg #[.bool nega1, .slice aa1 na1 ca1, .bool negb1, .slice ab1 nb1 cb1] := hd _ 10 (Array.mem_of_getElem? (i := 0) rfl) rfl rfl
    refine if_does (wanted_free rfl) (Does.calls (r_call Tryz.func10 en10.1 en10.2 (map2 e10 ev_c)) (Own5_any nega1 aa1 na1 ca1 xa1 negb1 ab1 nb1 cb1 xb1 5 _ (ia1.below hb) (ib1.below hb) (by omega)) ?_)
    rintro e w'' ⟨v', rfl, h', bb⟩
    exact ⟨_, rfl, h', bb, (fun h => absurd h (by decide))⟩
  · intro a' w' hF' hb hd
    exact if_does (wanted_free rfl) (Does.vals (r_load (hF'.at 3 rfl) (ld_Raw5 (vs := [.bool nega2, .slice aa2 na2 ca2, .bool negb2, .slice ab2 nb2 cb2]) (o3.below hb) rfl rfl)) ⟨rfl, Below.refl _ _, (fun h => absurd h (by decide))⟩)
  · intro a' w' hF' hb hd
    have e12 : a'.tmps.getD 12 undef = .agg #[.bool nega2, .slice aa2 na2 ca2, .bool negb2, .slice ab2 nb2 cb2] := hd _ 12 (Array.mem_of_getElem? (i := 0) rfl) rfl rfl
    refine if_does (wanted_free rfl) (Does.calls (r_call Tryz.func10 en10.1 en10.2 (map2 e12 ev_c)) (Own5_any nega2 aa2 na2 ca2 xa2 negb2 ab2 nb2 cb2 xb2 5 _ (ia2.below hb) (ib2.below hb) (by omega)) ?_)
    rintro e w'' ⟨v', rfl, h', bb⟩
    exact ⟨_, rfl, h', bb, (fun h => absurd h (by decide))⟩
  · intro a' w' hF' hb hd
    obtain ⟨g, w2, ge, hr, bb, on⟩ := own_alloc (P := Tryz.prog) (w := w') (cs := [.bool false, .slice none 0 0, .slice none 0 0]) 32 ze_Rat rfl (niB (niS (niS ni0)))
    subst ge
    exact if_does (wanted_free rfl) (Does.vals (r_alloc hr) ⟨⟨_, rfl, hb.size, on⟩, bb, fun _ => rfl⟩)
  · intro a' w' hF' hb hd
    obtain ⟨g, w2, ge, hr, bb, on⟩ := own_alloc (P := Tryz.prog) (w := w') (cs := [.bool false, .slice none 0 0, .slice none 0 0]) 32 ze_Rat rfl (niB (niS (niS ni0)))
    subst ge
    exact if_does (wanted_free rfl) (Does.vals (r_alloc hr) ⟨⟨_, rfl, hb.size, on⟩, bb, fun _ => rfl⟩)
  intro a w4 hF bb hall hne
  obtain ⟨vv5, e11, hh6⟩ : ∃ v, a.tmps.getD 11 undef = v ∧ Rq w4 v (((rawZ nega1 xa1 5 : Int) : Rat) / ((rawZ negb1 xb1 5 : Int) : Rat)) := ⟨_, rfl, hall 1 11 rfl⟩
  obtain ⟨vv7, e13, hh8⟩ : ∃ v, a.tmps.getD 13 undef = v ∧ Rq w4 v (((rawZ nega2 xa2 5 : Int) : Rat) / ((rawZ negb2 xb2 5 : Int) : Rat)) := ⟨_, rfl, hall 3 13 rfl⟩
  obtain ⟨g5, e5, ge5, o5⟩ : ∃ g, a.tmps.getD 5 undef = .pointer (some ⟨g, 0, none⟩) ∧ w3.heap.size ≤ g ∧ Own w4 g [.bool false, .slice none 0 0, .slice none 0 0] := hall 4 5 rfl
  obtain ⟨g6, e6, ge6, o6⟩ : ∃ g, a.tmps.getD 6 undef = .pointer (some ⟨g, 0, none⟩) ∧ w3.heap.size ≤ g ∧ Own w4 g [.bool false, .slice none 0 0, .slice none 0 0] := hall 5 6 rfl
  have ne5_6 : g5 ≠ g6 := by intro e; exact hne 4 5 5 6 rfl rfl (by decide) rfl rfl (by rw [e5, e6, e])
  replace ge5 : w.heap.size ≤ g5 := Nat.le_trans bel.size ge5
  replace ge6 : w.heap.size ≤ g6 := Nat.le_trans bel.size ge6
  clear hall hne
  replace bel := below_to bel bb
  clear bb
  obtain ⟨b9, ad9, n9, c9, ae9, m9, d9, rfl, hn9, hd9⟩ := Rq.shape hh6
  have hf10 := Wc.abs hn9
  replace hF := hF.add e11
  clear e11
  obtain ⟨b11, ad11, n11, c11, ae11, m11, d11, rfl, hn11, hd11⟩ := Rq.shape hh8
  have hf12 := Wc.abs hn11
  replace hF := hF.add e13
  clear e13
  replace hF := hF.add e5
  clear e5
  replace hF := hF.add e6
  clear e6
  obtain ⟨w13, hr, tu, on⟩ := st_Rat (vs := [.bool b9, .slice ad9 n9 c9, .slice ae9 m9 d9]) o5 rfl rfl (ocB (ocS (ocS oc0))) (niB (niS (niS ni0))) (o := 0) rfl
  have kp := tu.keep o5
  refine E.st hF (r_store (hF.at 1 rfl) (hF.at 3 rfl) (hr _ rfl)) rfl rfl fun a hF => ?_
  clear hr
  replace hh8 := hh8.keep kp
  replace hn11 := hn11.keep kp
  replace hf12 := hf12.keep kp
  replace hd11 := hd11.keep kp
  replace hh6 := hh6.keep kp
  replace hn9 := hn9.keep kp
  replace hf10 := hf10.keep kp
  replace hd9 := hd9.keep kp
  replace o6 := tu.own o6 (Ne.symm ne5_6)
  replace bel := tu.below bel ge5
  clear tu kp
  replace o5 := on
  clear on
  obtain ⟨w14, hr, tu, on⟩ := st_Rat (vs := [.bool b11, .slice ad11 n11 c11, .slice ae11 m11 d11]) o6 rfl rfl (ocB (ocS (ocS oc0))) (niB (niS (niS ni0))) (o := 0) rfl
  have kp := tu.keep o6
  refine E.st hF (r_store (hF.at 0 rfl) (hF.at 2 rfl) (hr _ rfl)) rfl rfl fun a hF => ?_
  clear hr
  replace hf10 := hf10.keep kp
  replace hd9 := hd9.keep kp
  replace hh6 := hh6.keep kp
  replace hn9 := hn9.keep kp
  replace hh8 := hh8.keep kp
  replace hn11 := hn11.keep kp
  replace hf12 := hf12.keep kp
  replace hd11 := hd11.keep kp
  replace o5 := tu.own o5 ne5_6
  replace bel := tu.below bel ge6
  clear tu kp
  replace o6 := on
  clear on
  refine E.nil ?_
  refine wp_seq ?_
  refine E.seq ?_
  refine E.opv hF (r_load (hF.at 1 rfl) (ld_Rat (vs := [.bool b9, .slice ad9 n9 c9, .slice ae9 m9 d9]) o5 rfl rfl)) rfl rfl rfl rfl fun a hF => ?_
  refine E.opv hF (r_load (hF.at 1 rfl) (ld_Rat (vs := [.bool b11, .slice ad11 n11 c11, .slice ae11 m11 d11]) o6 rfl rfl)) rfl rfl rfl rfl fun a hF => ?_
  refine E.call hF (r_call Tryz.func40 en40.1 en40.2 (map2 (hF.at 1 rfl) (hF.at 0 rfl))) (cMid_any _ _ (((rawZ nega1 xa1 5 : Int) : Rat) / ((rawZ negb1 xb1 5 : Int) : Rat)) (((rawZ nega2 xa2 5 : Int) : Rat) / ((rawZ negb2 xb2 5 : Int) : Rat)) 5 5 _ hh6 hh8 (own5_lim nega1 negb1 oka1 okb1 5 (by decide)) (own5_lim nega2 negb2 oka2 okb2 5 (by decide)) (by omega) (by omega)) rfl rfl rfl rfl ?_
  rintro e w15 ⟨vv16, rfl, hh17, bb⟩
  refine ⟨_, rfl, ?_⟩
  intro a hF
  replace hf10 := hf10.below bb
  replace hd9 := hd9.below bb
  replace hh6 := hh6.below bb
  replace hn9 := hn9.below bb
  replace hf12 := hf12.below bb
  replace hd11 := hd11.below bb
  replace hh8 := hh8.below bb
  replace hn11 := hn11.below bb
  replace o5 := o5.below bb
  replace o6 := o6.below bb
  replace bel := below_to bel bb
  clear bb
  obtain ⟨b18, ad18, n18, c18, ae18, m18, d18, rfl, hn18, hd18⟩ := Rq.shape hh17
  have hf19 := Wc.abs hn18
  obtain ⟨g7, w20, ge7, hr, bb, o7⟩ := own_alloc (P := Tryz.prog) (w := w15) (cs := [.bool false, .slice none 0 0, .slice none 0 0]) 32 ze_Rat rfl (niB (niS (niS ni0)))
  have ne5_7 : g5 ≠ g7 := by rw [← ge7]; exact o5.ne_new
  have ne6_7 : g6 ≠ g7 := by rw [← ge7]; exact o6.ne_new
  replace ge7 : w.heap.size ≤ g7 := by rw [← ge7]; exact bel.size
  refine E.opv hF (r_alloc hr) rfl rfl rfl rfl fun a hF => ?_
  clear hr
  replace hh17 := hh17.below bb
  replace hn18 := hn18.below bb
  replace hf19 := hf19.below bb
  replace hd18 := hd18.below bb
  replace hf10 := hf10.below bb
  replace hd9 := hd9.below bb
  replace hh6 := hh6.below bb
  replace hn9 := hn9.below bb
  replace hf12 := hf12.below bb
  replace hd11 := hd11.below bb
  replace hh8 := hh8.below bb
  replace hn11 := hn11.below bb
  replace o5 := o5.below bb
  replace o6 := o6.below bb
  replace bel := below_to bel bb
  clear bb
  obtain ⟨w21, hr, tu, on⟩ := st_Rat (vs := [.bool b18, .slice ad18 n18 c18, .slice ae18 m18 d18]) o7 rfl rfl (ocB (ocS (ocS oc0))) (niB (niS (niS ni0))) (o := 0) rfl
  have kp := tu.keep o7
  refine E.st hF (r_store (hF.at 0 rfl) (hF.at 1 rfl) (hr _ rfl)) rfl rfl fun a hF => ?_
  clear hr
  replace hf10 := hf10.keep kp
  replace hd9 := hd9.keep kp
  replace hh6 := hh6.keep kp
  replace hn9 := hn9.keep kp
  replace hf12 := hf12.keep kp
  replace hd11 := hd11.keep kp
  replace hh8 := hh8.keep kp
  replace hn11 := hn11.keep kp
  replace hh17 := hh17.keep kp
  replace hn18 := hn18.keep kp
  replace hf19 := hf19.keep kp
  replace hd18 := hd18.keep kp
  replace o5 := tu.own o5 ne5_7
  replace o6 := tu.own o6 ne6_7
  replace bel := tu.below bel ge7
  clear tu kp
  replace o7 := on
  clear on
  refine E.nil ?_
  refine wp_seq ?_
  refine E.drawn 26 mixed hF [17, 18, 19, 20, 21, 22, 23, 24, 25, 26, 27, 28, 29, 30, 31, 32, 33, 34, 35, 36, 37, 38, 39, 40, 41, 42] [(fun _ v => v = .agg #[.bool b18, .slice ad18 n18 c18, .slice ae18 m18 d18]), (fun _ v => v = .agg #[.bool b9, .slice ad9 n9 c9, .slice ae9 m9 d9]), (fun w v => Rq w v ((((((rawZ nega1 xa1 5 : Int) : Rat) / ((rawZ negb1 xb1 5 : Int) : Rat)) + (((rawZ nega2 xa2 5 : Int) : Rat) / ((rawZ negb2 xb2 5 : Int) : Rat))) * (((1 : Int) : Rat) / ((2 : Int) : Rat))) - (((rawZ nega1 xa1 5 : Int) : Rat) / ((rawZ negb1 xb1 5 : Int) : Rat)))), (fun _ v => v = .agg #[.bool b11, .slice ad11 n11 c11, .slice ae11 m11 d11]), (fun _ v => v = .agg #[.bool b18, .slice ad18 n18 c18, .slice ae18 m18 d18]), (fun w v => Rq w v ((((rawZ nega2 xa2 5 : Int) : Rat) / ((rawZ negb2 xb2 5 : Int) : Rat)) - (((((rawZ nega1 xa1 5 : Int) : Rat) / ((rawZ negb1 xb1 5 : Int) : Rat)) + (((rawZ nega2 xa2 5 : Int) : Rat) / ((rawZ negb2 xb2 5 : Int) : Rat))) * (((1 : Int) : Rat) / ((2 : Int) : Rat))))), (fun _ v => v = .bool true), (fun _ v => v = .bool true), (fun _ v => v = .agg #[.bool b18, .slice ad18 n18 c18, .slice ae18 m18 d18]), (fun _ v => v = .agg #[.bool b9, .slice ad9 n9 c9, .slice ae9 m9 d9]), (fun _ v => v = .int .i64 (qc (((((rawZ nega1 xa1 5 : Int) : Rat) / ((rawZ negb1 xb1 5 : Int) : Rat)) + (((rawZ nega2 xa2 5 : Int) : Rat) / ((rawZ negb2 xb2 5 : Int) : Rat))) * (((1 : Int) : Rat) / ((2 : Int) : Rat))) (((rawZ nega1 xa1 5 : Int) : Rat) / ((rawZ negb1 xb1 5 : Int) : Rat)))), (fun _ v => v = .agg #[.bool b11, .slice ad11 n11 c11, .slice ae11 m11 d11]), (fun _ v => v = .agg #[.bool b18, .slice ad18 n18 c18, .slice ae18 m18 d18]), (fun _ v => v = .int .i64 (qc (((rawZ nega2 xa2 5 : Int) : Rat) / ((rawZ negb2 xb2 5 : Int) : Rat)) (((((rawZ nega1 xa1 5 : Int) : Rat) / ((rawZ negb1 xb1 5 : Int) : Rat)) + (((rawZ nega2 xa2 5 : Int) : Rat) / ((rawZ negb2 xb2 5 : Int) : Rat))) * (((1 : Int) : Rat) / ((2 : Int) : Rat))))), (fun _ v => v = .int .i64 ((qc (((((rawZ nega1 xa1 5 : Int) : Rat) / ((rawZ negb1 xb1 5 : Int) : Rat)) + (((rawZ nega2 xa2 5 : Int) : Rat) / ((rawZ negb2 xb2 5 : Int) : Rat))) * (((1 : Int) : Rat) / ((2 : Int) : Rat))) (((rawZ nega1 xa1 5 : Int) : Rat) / ((rawZ negb1 xb1 5 : Int) : Rat))) * (qc (((rawZ nega2 xa2 5 : Int) : Rat) / ((rawZ negb2 xb2 5 : Int) : Rat)) (((((rawZ nega1 xa1 5 : Int) : Rat) / ((rawZ negb1 xb1 5 : Int) : Rat)) + (((rawZ nega2 xa2 5 : Int) : Rat) / ((rawZ negb2 xb2 5 : Int) : Rat))) * (((1 : Int) : Rat) / ((2 : Int) : Rat)))))), (fun _ v => v = .bool true), (fun _ v => v = .bool true), (fun _ v => v = .bool true), (fun _ v => v = .agg #[.bool b9, .slice ad9 n9 c9, .slice ae9 m9 d9]), (fun _ v => v = .agg #[.bool b11, .slice ad11 n11 c11, .slice ae11 m11 d11]), (fun _ v => v = .bool (decide ((((rawZ nega1 xa1 5 : Int) : Rat) / ((rawZ negb1 xb1 5 : Int) : Rat)) = (((rawZ nega2 xa2 5 : Int) : Rat) / ((rawZ negb2 xb2 5 : Int) : Rat))))), (fun _ v => v = .agg #[.bool b18, .slice ad18 n18 c18, .slice ae18 m18 d18]), (fun _ v => v = .agg #[.bool b9, .slice ad9 n9 c9, .slice ae9 m9 d9]), (fun _ v => v = .bool (decide ((((((rawZ nega1 xa1 5 : Int) : Rat) / ((rawZ negb1 xb1 5 : Int) : Rat)) + (((rawZ nega2 xa2 5 : Int) : Rat) / ((rawZ negb2 xb2 5 : Int) : Rat))) * (((1 : Int) : Rat) / ((2 : Int) : Rat))) = (((rawZ nega1 xa1 5 : Int) : Rat) / ((rawZ negb1 xb1 5 : Int) : Rat))))), (fun _ v => v = .bool true), (fun _ v => v = .bool true)] [] (by decide +kernel) (by decide +kernel) rfl rfl rfl ⟨(Mb.eq _), (Mb.eq _), (fun _ _ _ h hb => h.below hb), (Mb.eq _), (Mb.eq _), (fun _ _ _ h hb => h.below hb), (Mb.eq _), (Mb.eq _), (Mb.eq _), (Mb.eq _), (Mb.eq _), (Mb.eq _), (Mb.eq _), (Mb.eq _), (Mb.eq _), (Mb.eq _), (Mb.eq _), (Mb.eq _), (Mb.eq _), (Mb.eq _), (Mb.eq _), (Mb.eq _), (Mb.eq _), (Mb.eq _), (Mb.eq _), (Mb.eq _), trivial⟩ trivial ⟨?_, ?_, ?_, ?_, ?_, ?_, ?_, ?_, ?_, ?_, ?_, ?_, ?_, ?_, ?_, ?_, ?_, ?_, ?_, ?_, ?_, ?_, ?_, ?_, ?_, ?_, trivial⟩ ?_
  · intro a' w' hF' hb hd
    exact if_does (wanted_free rfl) (Does.vals (r_load (hF'.at 0 rfl) (ld_Rat (vs := [.bool b18, .slice ad18 n18 c18, .slice ae18 m18 d18]) (o7.below hb) rfl rfl)) ⟨rfl, Below.refl _ _, (fun h => absurd h (by decide))⟩)
  · intro a' w' hF' hb hd
    exact if_does (wanted_free rfl) (Does.vals (r_load (hF'.at 5 rfl) (ld_Rat (vs := [.bool b9, .slice ad9 n9 c9, .slice ae9 m9 d9]) (o5.below hb) rfl rfl)) ⟨rfl, Below.refl _ _, (fun h => absurd h (by decide))⟩)
  · intro a' w' hF' hb hd
    have e17 : a'.tmps.getD 17 undef = .agg #[.bool b18, .slice ad18 n18 c18, .slice ae18 m18 d18] := hd _ 17 (Array.mem_of_getElem? (i := 0) rfl) rfl rfl
    have e18 : a'.tmps.getD 18 undef = .agg #[.bool b9, .slice ad9 n9 c9, .slice ae9 m9 d9] := hd _ 18 (Array.mem_of_getElem? (i := 1) rfl) rfl rfl
    refine if_does (wanted_free rfl) (Does.calls (r_call Tryz.func27 en27.1 en27.2 (map2 e17 e18)) (rSub_any _ _ (((((rawZ nega1 xa1 5 : Int) : Rat) / ((rawZ negb1 xb1 5 : Int) : Rat)) + (((rawZ nega2 xa2 5 : Int) : Rat) / ((rawZ negb2 xb2 5 : Int) : Rat))) * (((1 : Int) : Rat) / ((2 : Int) : Rat))) (((rawZ nega1 xa1 5 : Int) : Rat) / ((rawZ negb1 xb1 5 : Int) : Rat)) (max (5 + 5 + 3) 5) _ (hh17.below hb) (hh6.below hb) ((mid_lim (own5_lim nega1 negb1 oka1 okb1 5 (by decide)) (own5_lim nega2 negb2 oka2 okb2 5 (by decide))).up _ (by omega)) ((own5_lim nega1 negb1 oka1 okb1 5 (by decide)).up _ (by omega)) (by omega)) ?_)
    rintro e w'' ⟨v', rfl, h', bb⟩
    exact ⟨_, rfl, h', bb, (fun h => absurd h (by decide))⟩
  · intro a' w' hF' hb hd
    exact if_does (wanted_free rfl) (Does.vals (r_load (hF'.at 4 rfl) (ld_Rat (vs := [.bool b11, .slice ad11 n11 c11, .slice ae11 m11 d11]) (o6.below hb) rfl rfl)) ⟨rfl, Below.refl _ _, (fun h => absurd h (by decide))⟩)
  · intro a' w' hF' hb hd
    exact if_does (wanted_free rfl) (Does.vals (r_load (hF'.at 0 rfl) (ld_Rat (vs := [.bool b18, .slice ad18 n18 c18, .slice ae18 m18 d18]) (o7.below hb) rfl rfl)) ⟨rfl, Below.refl _ _, (fun h => absurd h (by decide))⟩)
  · intro a' w' hF' hb hd
    have e20 : a'.tmps.getD 20 undef = .agg #[.bool b11, .slice ad11 n11 c11, .slice ae11 m11 d11] := hd _ 20 (Array.mem_of_getElem? (i := 0) rfl) rfl rfl
    have e21 : a'.tmps.getD 21 undef = .agg #[.bool b18, .slice ad18 n18 c18, .slice ae18 m18 d18] := hd _ 21 (Array.mem_of_getElem? (i := 1) rfl) rfl rfl
    refine if_does (wanted_free rfl) (Does.calls (r_call Tryz.func27 en27.1 en27.2 (map2 e20 e21)) (rSub_any _ _ (((rawZ nega2 xa2 5 : Int) : Rat) / ((rawZ negb2 xb2 5 : Int) : Rat)) (((((rawZ nega1 xa1 5 : Int) : Rat) / ((rawZ negb1 xb1 5 : Int) : Rat)) + (((rawZ nega2 xa2 5 : Int) : Rat) / ((rawZ negb2 xb2 5 : Int) : Rat))) * (((1 : Int) : Rat) / ((2 : Int) : Rat))) (max 5 (5 + 5 + 3)) _ (hh8.below hb) (hh17.below hb) ((own5_lim nega2 negb2 oka2 okb2 5 (by decide)).up _ (by omega)) ((mid_lim (own5_lim nega1 negb1 oka1 okb1 5 (by decide)) (own5_lim nega2 negb2 oka2 okb2 5 (by decide))).up _ (by omega)) (by omega)) ?_)
    rintro e w'' ⟨v', rfl, h', bb⟩
    exact ⟨_, rfl, h', bb, (fun h => absurd h (by decide))⟩
  · intro a' w' hF' hb hd
    obtain ⟨v19_0, e19, h19_1⟩ : ∃ v, a'.tmps.getD 19 undef = v ∧ Rq w' v ((((((rawZ nega1 xa1 5 : Int) : Rat) / ((rawZ negb1 xb1 5 : Int) : Rat)) + (((rawZ nega2 xa2 5 : Int) : Rat) / ((rawZ negb2 xb2 5 : Int) : Rat))) * (((1 : Int) : Rat) / ((2 : Int) : Rat))) - (((rawZ nega1 xa1 5 : Int) : Rat) / ((rawZ negb1 xb1 5 : Int) : Rat))) := ⟨_, rfl, hd _ 19 (Array.mem_of_getElem? (i := 0) rfl) rfl rfl⟩
    obtain ⟨v22_0, e22, h22_1⟩ : ∃ v, a'.tmps.getD 22 undef = v ∧ Rq w' v ((((rawZ nega2 xa2 5 : Int) : Rat) / ((rawZ negb2 xb2 5 : Int) : Rat)) - (((((rawZ nega1 xa1 5 : Int) : Rat) / ((rawZ negb1 xb1 5 : Int) : Rat)) + (((rawZ nega2 xa2 5 : Int) : Rat) / ((rawZ negb2 xb2 5 : Int) : Rat))) * (((1 : Int) : Rat) / ((2 : Int) : Rat)))) := ⟨_, rfl, hd _ 22 (Array.mem_of_getElem? (i := 1) rfl) rfl rfl⟩
    refine if_does (wanted_free rfl) (Does.calls (r_call Tryz.func26 en26.1 en26.2 (map2 e19 e22)) (rSame_true _ _ ((((((rawZ nega1 xa1 5 : Int) : Rat) / ((rawZ negb1 xb1 5 : Int) : Rat)) + (((rawZ nega2 xa2 5 : Int) : Rat) / ((rawZ negb2 xb2 5 : Int) : Rat))) * (((1 : Int) : Rat) / ((2 : Int) : Rat))) - (((rawZ nega1 xa1 5 : Int) : Rat) / ((rawZ negb1 xb1 5 : Int) : Rat))) ((((rawZ nega2 xa2 5 : Int) : Rat) / ((rawZ negb2 xb2 5 : Int) : Rat)) - (((((rawZ nega1 xa1 5 : Int) : Rat) / ((rawZ negb1 xb1 5 : Int) : Rat)) + (((rawZ nega2 xa2 5 : Int) : Rat) / ((rawZ negb2 xb2 5 : Int) : Rat))) * (((1 : Int) : Rat) / ((2 : Int) : Rat)))) _ h19_1 h22_1 (mid_same _ _)) ?_)
    rintro e w'' ⟨rfl, bb⟩
    exact ⟨_, rfl, rfl, bb, (fun h => absurd h (by decide))⟩
  · intro a' w' hF' hb hd
    have e23 : a'.tmps.getD 23 undef = .bool true := hd _ 23 (Array.mem_of_getElem? (i := 0) rfl) rfl rfl
    exact if_does (wanted_free rfl) (Does.vals (r_move e23) ⟨rfl, Below.refl _ _, (fun h => absurd h (by decide))⟩)
  · intro a' w' hF' hb hd
    have e24 : a'.tmps.getD 24 undef = .bool true := hd _ 24 (Array.mem_of_getElem? (i := 0) rfl) rfl rfl
    exact if_does (wanted_by rfl rfl e24 rfl) (Does.vals (r_load (hF'.at 0 rfl) (ld_Rat (vs := [.bool b18, .slice ad18 n18 c18, .slice ae18 m18 d18]) (o7.below hb) rfl rfl)) ⟨rfl, Below.refl _ _, (fun h => absurd h (by decide))⟩)
  · intro a' w' hF' hb hd
    have e24 : a'.tmps.getD 24 undef = .bool true := hd _ 24 (Array.mem_of_getElem? (i := 0) rfl) rfl rfl
    exact if_does (wanted_by rfl rfl e24 rfl) (Does.vals (r_load (hF'.at 5 rfl) (ld_Rat (vs := [.bool b9, .slice ad9 n9 c9, .slice ae9 m9 d9]) (o5.below hb) rfl rfl)) ⟨rfl, Below.refl _ _, (fun h => absurd h (by decide))⟩)
  · intro a' w' hF' hb hd
    have e24 : a'.tmps.getD 24 undef = .bool true := hd _ 24 (Array.mem_of_getElem? (i := 2) rfl) rfl rfl
    have e25 : a'.tmps.getD 25 undef = .agg #[.bool b18, .slice ad18 n18 c18, .slice ae18 m18 d18] := hd _ 25 (Array.mem_of_getElem? (i := 0) rfl) rfl rfl
    have e26 : a'.tmps.getD 26 undef = .agg #[.bool b9, .slice ad9 n9 c9, .slice ae9 m9 d9] := hd _ 26 (Array.mem_of_getElem? (i := 1) rfl) rfl rfl
    refine if_does (wanted_by rfl rfl e24 rfl) (Does.calls (r_call Tryz.func22 en22.1 en22.2 (map2 e25 e26)) (rCmp_any _ _ (((((rawZ nega1 xa1 5 : Int) : Rat) / ((rawZ negb1 xb1 5 : Int) : Rat)) + (((rawZ nega2 xa2 5 : Int) : Rat) / ((rawZ negb2 xb2 5 : Int) : Rat))) * (((1 : Int) : Rat) / ((2 : Int) : Rat))) (((rawZ nega1 xa1 5 : Int) : Rat) / ((rawZ negb1 xb1 5 : Int) : Rat)) (max (5 + 5 + 3) 5) _ (hh17.below hb) (hh6.below hb) ((mid_lim (own5_lim nega1 negb1 oka1 okb1 5 (by decide)) (own5_lim nega2 negb2 oka2 okb2 5 (by decide))).up _ (by omega)) ((own5_lim nega1 negb1 oka1 okb1 5 (by decide)).up _ (by omega)) (by omega)) ?_)
    rintro e w'' ⟨rfl, bb⟩
    exact ⟨_, rfl, rfl, bb, (fun h => absurd h (by decide))⟩
  · intro a' w' hF' hb hd
    have e24 : a'.tmps.getD 24 undef = .bool true := hd _ 24 (Array.mem_of_getElem? (i := 0) rfl) rfl rfl
    exact if_does (wanted_by rfl rfl e24 rfl) (Does.vals (r_load (hF'.at 4 rfl) (ld_Rat (vs := [.bool b11, .slice ad11 n11 c11, .slice ae11 m11 d11]) (o6.below hb) rfl rfl)) ⟨rfl, Below.refl _ _, (fun h => absurd h (by decide))⟩)
  · intro a' w' hF' hb hd
    have e24 : a'.tmps.getD 24 undef = .bool true := hd _ 24 (Array.mem_of_getElem? (i := 0) rfl) rfl rfl
    exact if_does (wanted_by rfl rfl e24 rfl) (Does.vals (r_load (hF'.at 0 rfl) (ld_Rat (vs := [.bool b18, .slice ad18 n18 c18, .slice ae18 m18 d18]) (o7.below hb) rfl rfl)) ⟨rfl, Below.refl _ _, (fun h => absurd h (by decide))⟩)
  · intro a' w' hF' hb hd
    have e24 : a'.tmps.getD 24 undef = .bool true := hd _ 24 (Array.mem_of_getElem? (i := 3) rfl) rfl rfl
    have e28 : a'.tmps.getD 28 undef = .agg #[.bool b11, .slice ad11 n11 c11, .slice ae11 m11 d11] := hd _ 28 (Array.mem_of_getElem? (i := 0) rfl) rfl rfl
    have e29 : a'.tmps.getD 29 undef = .agg #[.bool b18, .slice ad18 n18 c18, .slice ae18 m18 d18] := hd _ 29 (Array.mem_of_getElem? (i := 1) rfl) rfl rfl
    refine if_does (wanted_by rfl rfl e24 rfl) (Does.calls (r_call Tryz.func22 en22.1 en22.2 (map2 e28 e29)) (rCmp_any _ _ (((rawZ nega2 xa2 5 : Int) : Rat) / ((rawZ negb2 xb2 5 : Int) : Rat)) (((((rawZ nega1 xa1 5 : Int) : Rat) / ((rawZ negb1 xb1 5 : Int) : Rat)) + (((rawZ nega2 xa2 5 : Int) : Rat) / ((rawZ negb2 xb2 5 : Int) : Rat))) * (((1 : Int) : Rat) / ((2 : Int) : Rat))) (max 5 (5 + 5 + 3)) _ (hh8.below hb) (hh17.below hb) ((own5_lim nega2 negb2 oka2 okb2 5 (by decide)).up _ (by omega)) ((mid_lim (own5_lim nega1 negb1 oka1 okb1 5 (by decide)) (own5_lim nega2 negb2 oka2 okb2 5 (by decide))).up _ (by omega)) (by omega)) ?_)
    rintro e w'' ⟨rfl, bb⟩
    exact ⟨_, rfl, rfl, bb, (fun h => absurd h (by decide))⟩
  · intro a' w' hF' hb hd
    have e24 : a'.tmps.getD 24 undef = .bool true := hd _ 24 (Array.mem_of_getElem? (i := 2) rfl) rfl rfl
    have e27 : a'.tmps.getD 27 undef = .int .i64 (qc (((((rawZ nega1 xa1 5 : Int) : Rat) / ((rawZ negb1 xb1 5 : Int) : Rat)) + (((rawZ nega2 xa2 5 : Int) : Rat) / ((rawZ negb2 xb2 5 : Int) : Rat))) * (((1 : Int) : Rat) / ((2 : Int) : Rat))) (((rawZ nega1 xa1 5 : Int) : Rat) / ((rawZ negb1 xb1 5 : Int) : Rat))) := hd _ 27 (Array.mem_of_getElem? (i := 0) rfl) rfl rfl
    have e30 : a'.tmps.getD 30 undef = .int .i64 (qc (((rawZ nega2 xa2 5 : Int) : Rat) / ((rawZ negb2 xb2 5 : Int) : Rat)) (((((rawZ nega1 xa1 5 : Int) : Rat) / ((rawZ negb1 xb1 5 : Int) : Rat)) + (((rawZ nega2 xa2 5 : Int) : Rat) / ((rawZ negb2 xb2 5 : Int) : Rat))) * (((1 : Int) : Rat) / ((2 : Int) : Rat)))) := hd _ 30 (Array.mem_of_getElem? (i := 1) rfl) rfl rfl
    exact if_does (wanted_by rfl rfl e24 rfl) (Does.vals (r_bin e27 e30 eg_scalar (ia_mul (small_mul (qc_bd _ _) (qc_bd _ _)).1 (small_mul (qc_bd _ _) (qc_bd _ _)).2)) ⟨rfl, Below.refl _ _, (fun h => absurd h (by decide))⟩)
  · intro a' w' hF' hb hd
    have e24 : a'.tmps.getD 24 undef = .bool true := hd _ 24 (Array.mem_of_getElem? (i := 1) rfl) rfl rfl
    have e31 : a'.tmps.getD 31 undef = .int .i64 ((qc (((((rawZ nega1 xa1 5 : Int) : Rat) / ((rawZ negb1 xb1 5 : Int) : Rat)) + (((rawZ nega2 xa2 5 : Int) : Rat) / ((rawZ negb2 xb2 5 : Int) : Rat))) * (((1 : Int) : Rat) / ((2 : Int) : Rat))) (((rawZ nega1 xa1 5 : Int) : Rat) / ((rawZ negb1 xb1 5 : Int) : Rat))) * (qc (((rawZ nega2 xa2 5 : Int) : Rat) / ((rawZ negb2 xb2 5 : Int) : Rat)) (((((rawZ nega1 xa1 5 : Int) : Rat) / ((rawZ negb1 xb1 5 : Int) : Rat)) + (((rawZ nega2 xa2 5 : Int) : Rat) / ((rawZ negb2 xb2 5 : Int) : Rat))) * (((1 : Int) : Rat) / ((2 : Int) : Rat))))) := hd _ 31 (Array.mem_of_getElem? (i := 0) rfl) rfl rfl
    exact if_does (wanted_by rfl rfl e24 rfl) (Does.vals (r_bin e31 ev_c eg_scalar (bi_int (ic_geq (c := true) (ge0 (mid_qc _ _))) (by simp))) ⟨rfl, Below.refl _ _, (fun h => absurd h (by decide))⟩)
  · intro a' w' hF' hb hd
    have e24 : a'.tmps.getD 24 undef = .bool true := hd _ 24 (Array.mem_of_getElem? (i := 0) rfl) rfl rfl
    have e32 : a'.tmps.getD 32 undef = .bool true := hd _ 32 (Array.mem_of_getElem? (i := 1) rfl) rfl rfl
    exact if_does (wanted_free rfl) (Does.vals (r_pick_t e24 e32) ⟨rfl, Below.refl _ _, (fun h => absurd h (by decide))⟩)
  · intro a' w' hF' hb hd
    have e33 : a'.tmps.getD 33 undef = .bool true := hd _ 33 (Array.mem_of_getElem? (i := 0) rfl) rfl rfl
    exact if_does (wanted_free rfl) (Does.vals (r_move e33) ⟨rfl, Below.refl _ _, (fun h => absurd h (by decide))⟩)
  · intro a' w' hF' hb hd
    have e34 : a'.tmps.getD 34 undef = .bool true := hd _ 34 (Array.mem_of_getElem? (i := 0) rfl) rfl rfl
    exact if_does (wanted_by rfl rfl e34 rfl) (Does.vals (r_load (hF'.at 5 rfl) (ld_Rat (vs := [.bool b9, .slice ad9 n9 c9, .slice ae9 m9 d9]) (o5.below hb) rfl rfl)) ⟨rfl, Below.refl _ _, (fun h => absurd h (by decide))⟩)
  · intro a' w' hF' hb hd
    have e34 : a'.tmps.getD 34 undef = .bool true := hd _ 34 (Array.mem_of_getElem? (i := 0) rfl) rfl rfl
    exact if_does (wanted_by rfl rfl e34 rfl) (Does.vals (r_load (hF'.at 4 rfl) (ld_Rat (vs := [.bool b11, .slice ad11 n11 c11, .slice ae11 m11 d11]) (o6.below hb) rfl rfl)) ⟨rfl, Below.refl _ _, (fun h => absurd h (by decide))⟩)
  · intro a' w' hF' hb hd
    have e34 : a'.tmps.getD 34 undef = .bool true := hd _ 34 (Array.mem_of_getElem? (i := 2) rfl) rfl rfl
    have e35 : a'.tmps.getD 35 undef = .agg #[.bool b9, .slice ad9 n9 c9, .slice ae9 m9 d9] := hd _ 35 (Array.mem_of_getElem? (i := 0) rfl) rfl rfl
    have e36 : a'.tmps.getD 36 undef = .agg #[.bool b11, .slice ad11 n11 c11, .slice ae11 m11 d11] := hd _ 36 (Array.mem_of_getElem? (i := 1) rfl) rfl rfl
    refine if_does (wanted_by rfl rfl e34 rfl) (Does.calls (r_call Tryz.func26 en26.1 en26.2 (map2 e35 e36)) (rSame_any _ _ (((rawZ nega1 xa1 5 : Int) : Rat) / ((rawZ negb1 xb1 5 : Int) : Rat)) (((rawZ nega2 xa2 5 : Int) : Rat) / ((rawZ negb2 xb2 5 : Int) : Rat)) _ (hh6.below hb) (hh8.below hb)) ?_)
    rintro e w'' ⟨rfl, bb⟩
    exact ⟨_, rfl, rfl, bb, (fun h => absurd h (by decide))⟩
  · intro a' w' hF' hb hd
    have e34 : a'.tmps.getD 34 undef = .bool true := hd _ 34 (Array.mem_of_getElem? (i := 0) rfl) rfl rfl
    exact if_does (wanted_by rfl rfl e34 rfl) (Does.vals (r_load (hF'.at 0 rfl) (ld_Rat (vs := [.bool b18, .slice ad18 n18 c18, .slice ae18 m18 d18]) (o7.below hb) rfl rfl)) ⟨rfl, Below.refl _ _, (fun h => absurd h (by decide))⟩)
  · intro a' w' hF' hb hd
    have e34 : a'.tmps.getD 34 undef = .bool true := hd _ 34 (Array.mem_of_getElem? (i := 0) rfl) rfl rfl
    exact if_does (wanted_by rfl rfl e34 rfl) (Does.vals (r_load (hF'.at 5 rfl) (ld_Rat (vs := [.bool b9, .slice ad9 n9 c9, .slice ae9 m9 d9]) (o5.below hb) rfl rfl)) ⟨rfl, Below.refl _ _, (fun h => absurd h (by decide))⟩)
  · intro a' w' hF' hb hd
    have e34 : a'.tmps.getD 34 undef = .bool true := hd _ 34 (Array.mem_of_getElem? (i := 3) rfl) rfl rfl
    have e38 : a'.tmps.getD 38 undef = .agg #[.bool b18, .slice ad18 n18 c18, .slice ae18 m18 d18] := hd _ 38 (Array.mem_of_getElem? (i := 0) rfl) rfl rfl
    have e39 : a'.tmps.getD 39 undef = .agg #[.bool b9, .slice ad9 n9 c9, .slice ae9 m9 d9] := hd _ 39 (Array.mem_of_getElem? (i := 1) rfl) rfl rfl
    refine if_does (wanted_by rfl rfl e34 rfl) (Does.calls (r_call Tryz.func26 en26.1 en26.2 (map2 e38 e39)) (rSame_any _ _ (((((rawZ nega1 xa1 5 : Int) : Rat) / ((rawZ negb1 xb1 5 : Int) : Rat)) + (((rawZ nega2 xa2 5 : Int) : Rat) / ((rawZ negb2 xb2 5 : Int) : Rat))) * (((1 : Int) : Rat) / ((2 : Int) : Rat))) (((rawZ nega1 xa1 5 : Int) : Rat) / ((rawZ negb1 xb1 5 : Int) : Rat)) _ (hh17.below hb) (hh6.below hb)) ?_)
    rintro e w'' ⟨rfl, bb⟩
    exact ⟨_, rfl, rfl, bb, (fun h => absurd h (by decide))⟩
  · intro a' w' hF' hb hd
    have e34 : a'.tmps.getD 34 undef = .bool true := hd _ 34 (Array.mem_of_getElem? (i := 2) rfl) rfl rfl
    have e37 : a'.tmps.getD 37 undef = .bool (decide ((((rawZ nega1 xa1 5 : Int) : Rat) / ((rawZ negb1 xb1 5 : Int) : Rat)) = (((rawZ nega2 xa2 5 : Int) : Rat) / ((rawZ negb2 xb2 5 : Int) : Rat)))) := hd _ 37 (Array.mem_of_getElem? (i := 0) rfl) rfl rfl
    have e40 : a'.tmps.getD 40 undef = .bool (decide ((((((rawZ nega1 xa1 5 : Int) : Rat) / ((rawZ negb1 xb1 5 : Int) : Rat)) + (((rawZ nega2 xa2 5 : Int) : Rat) / ((rawZ negb2 xb2 5 : Int) : Rat))) * (((1 : Int) : Rat) / ((2 : Int) : Rat))) = (((rawZ nega1 xa1 5 : Int) : Rat) / ((rawZ negb1 xb1 5 : Int) : Rat)))) := hd _ 40 (Array.mem_of_getElem? (i := 1) rfl) rfl rfl
    exact if_does (wanted_by rfl rfl e34 rfl) (Does.vals (r_bin e37 e40 eg_bool (bb_eql (d := true) (eq_bool (mid_same2 _ _)))) ⟨rfl, Below.refl _ _, (fun h => absurd h (by decide))⟩)
  · intro a' w' hF' hb hd
    have e34 : a'.tmps.getD 34 undef = .bool true := hd _ 34 (Array.mem_of_getElem? (i := 0) rfl) rfl rfl
    have e41 : a'.tmps.getD 41 undef = .bool true := hd _ 41 (Array.mem_of_getElem? (i := 1) rfl) rfl rfl
    exact if_does (wanted_free rfl) (Does.vals (r_pick_t e34 e41) ⟨rfl, Below.refl _ _, (fun h => absurd h (by decide))⟩)
  intro a w22 hF bb hall hne
  have e42 : a.tmps.getD 42 undef = .bool true := hall 25 42 rfl
  clear hall hne
  replace bel := below_to bel bb
  clear bb
  replace hF := hF.add e42
  clear e42
  refine E.opset (L' := [(4, .bool true), (42, .bool true), (7, .pointer (some ⟨g7, 0, none⟩)), (16, .agg #[.bool b18, .slice ad18 n18 c18, .slice ae18 m18 d18]), (15, .agg #[.bool b11, .slice ad11 n11 c11, .slice ae11 m11 d11]), (14, .agg #[.bool b9, .slice ad9 n9 c9, .slice ae9 m9 d9]), (6, .pointer (some ⟨g6, 0, none⟩)), (5, .pointer (some ⟨g5, 0, none⟩)), (13, .agg #[.bool b11, .slice ad11 n11 c11, .slice ae11 m11 d11]), (11, .agg #[.bool b9, .slice ad9 n9 c9, .slice ae9 m9 d9]), (9, .bool false), (8, .bool true), (3, .pointer (some ⟨g3, 0, none⟩)), (2, .pointer (some ⟨g2, 0, none⟩)), (0, .agg #[.bool nega1, .slice aa1 na1 ca1, .bool negb1, .slice ab1 nb1 cb1]), (1, .agg #[.bool nega2, .slice aa2 na2 ca2, .bool negb2, .slice ab2 nb2 cb2])]) hF (r_assign (hF.at 0 rfl)) rfl rfl rfl rfl fun a hF => ?_
  refine E.nil ?_
  refine wp_ret ?_
  refine bodyPost_ret (res_tmp Tryz.results6 (hF.at 0 rfl)) hF.dfr ?_
  exact ⟨rfl, bel⟩

end Go.Proofs.YthoiocjbjfhgpaaGreat
