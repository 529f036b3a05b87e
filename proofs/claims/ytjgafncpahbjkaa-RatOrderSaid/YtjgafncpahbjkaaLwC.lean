/- The walk of RatOrder. -/
import Derived.Test.YtjgafncpahbjkaaLwQ
namespace Go.Proofs.Ytjgafncpahbjkaa
open Go.RowKit
set_option maxRecDepth 100000
set_option linter.unusedVariables false

set_option maxHeartbeats 8000000 in
theorem ratOrder_walk (nega1 : Bool) (aa1 : Option Addr) (na1 ca1 : Nat) (xa1 : List Nat) (negb1 : Bool) (ab1 : Option Addr) (nb1 cb1 : Nat) (xb1 : List Nat) (nega2 : Bool) (aa2 : Option Addr) (na2 ca2 : Nat) (xa2 : List Nat) (negb2 : Bool) (ab2 : Option Addr) (nb2 cb2 : Nat) (xb2 : List Nat) (nega3 : Bool) (aa3 : Option Addr) (na3 ca3 : Nat) (xa3 : List Nat) (negb3 : Bool) (ab3 : Option Addr) (nb3 cb3 : Nat) (xb3 : List Nat) (w : World) (ia1 : InX w aa1 na1 ca1 xa1) (ib1 : InX w ab1 nb1 cb1 xb1) (ia2 : InX w aa2 na2 ca2 xa2) (ib2 : InX w ab2 nb2 cb2 xb2) (ia3 : InX w aa3 na3 ca3 xa3) (ib3 : InX w ab3 nb3 cb3 xb3) :
    Calls Try.prog 13 #[.agg #[.bool nega1, .slice aa1 na1 ca1, .bool negb1, .slice ab1 nb1 cb1], .agg #[.bool nega2, .slice aa2 na2 ca2, .bool negb2, .slice ab2 nb2 cb2], .agg #[.bool nega3, .slice aa3 na3 ca3, .bool negb3, .slice ab3 nb3 cb3]] w (TruePost w) := by
  have oka1 := ia1.ok
  have okb1 := ib1.ok
  have oka2 := ia2.ok
  have okb2 := ib2.ok
  have oka3 := ia3.ok
  have okb3 := ib3.ok
  by_cases hc1 : qc (((rawZ nega1 xa1 4 : Int) : Rat) / ((rawZ negb1 xb1 4 : Int) : Rat)) (((rawZ nega2 xa2 4 : Int) : Rat) / ((rawZ negb2 xb2 4 : Int) : Rat)) ≤ 0
  · by_cases hc2 : qc (((rawZ nega2 xa2 4 : Int) : Rat) / ((rawZ negb2 xb2 4 : Int) : Rat)) (((rawZ nega3 xa3 4 : Int) : Rat) / ((rawZ negb3 xb3 4 : Int) : Rat)) ≤ 0
    · have bel : Below w.heap.size w w := Below.refl _ _
      refine E.enter (nt := 76) (L := [(0, .agg #[.bool nega1, .slice aa1 na1 ca1, .bool negb1, .slice ab1 nb1 cb1]), (1, .agg #[.bool nega2, .slice aa2 na2 ca2, .bool negb2, .slice ab2 nb2 cb2]), (2, .agg #[.bool nega3, .slice aa3 na3 ca3, .bool negb3, .slice ab3 nb3 cb3])]) Try.func13 rfl rfl rfl (args_cons (i := 0) rfl (args_cons (i := 1) rfl (args_cons (i := 2) rfl args_nil))) ?_
      intro a hF
      refine wp_seq ?_
      refine E.seq ?_
      obtain ⟨g3, w1, ge3, hr, bb, o3⟩ := own_box (P := Try.prog) (w := w) (cs := [.bool nega1, .slice aa1 na1 ca1, .bool negb1, .slice ab1 nb1 cb1]) (v := .agg #[.bool nega1, .slice aa1 na1 ca1, .bool negb1, .slice ab1 nb1 cb1]) 74 rfl (niB (niS (niB (niS ni0))))
      replace ge3 : w.heap.size ≤ g3 := by rw [← ge3]; exact bel.size
      refine E.opv hF (r_box (hF.at 0 rfl) hr) rfl rfl rfl rfl fun a hF => ?_
      clear hr
      replace ia2 := ia2.below bb
      replace ib2 := ib2.below bb
      replace ia3 := ia3.below bb
      replace ib3 := ib3.below bb
      replace ia1 := ia1.below bb
      replace ib1 := ib1.below bb
      replace bel := below_to bel bb
      clear bb
      obtain ⟨g4, w2, ge4, hr, bb, o4⟩ := own_box (P := Try.prog) (w := w1) (cs := [.bool nega2, .slice aa2 na2 ca2, .bool negb2, .slice ab2 nb2 cb2]) (v := .agg #[.bool nega2, .slice aa2 na2 ca2, .bool negb2, .slice ab2 nb2 cb2]) 74 rfl (niB (niS (niB (niS ni0))))
      have ne3_4 : g3 ≠ g4 := by rw [← ge4]; exact o3.ne_new
      replace ge4 : w.heap.size ≤ g4 := by rw [← ge4]; exact bel.size
      refine E.opv hF (r_box (hF.at 2 rfl) hr) rfl rfl rfl rfl fun a hF => ?_
      clear hr
      replace ia3 := ia3.below bb
      replace ib3 := ib3.below bb
      replace ia1 := ia1.below bb
      replace ib1 := ib1.below bb
      replace ia2 := ia2.below bb
      replace ib2 := ib2.below bb
      replace o3 := o3.below bb
      replace bel := below_to bel bb
      clear bb
      obtain ⟨g5, w3, ge5, hr, bb, o5⟩ := own_box (P := Try.prog) (w := w2) (cs := [.bool nega3, .slice aa3 na3 ca3, .bool negb3, .slice ab3 nb3 cb3]) (v := .agg #[.bool nega3, .slice aa3 na3 ca3, .bool negb3, .slice ab3 nb3 cb3]) 74 rfl (niB (niS (niB (niS ni0))))
      have ne3_5 : g3 ≠ g5 := by rw [← ge5]; exact o3.ne_new
      have ne4_5 : g4 ≠ g5 := by rw [← ge5]; exact o4.ne_new
      replace ge5 : w.heap.size ≤ g5 := by rw [← ge5]; exact bel.size
      refine E.opv hF (r_box (hF.at 4 rfl) hr) rfl rfl rfl rfl fun a hF => ?_
      clear hr
      replace ia1 := ia1.below bb
      replace ib1 := ib1.below bb
      replace ia2 := ia2.below bb
      replace ib2 := ib2.below bb
      replace ia3 := ia3.below bb
      replace ib3 := ib3.below bb
      replace o3 := o3.below bb
      replace o4 := o4.below bb
      replace bel := below_to bel bb
      clear bb
      refine E.opv hF (r_assign ev_c) rfl rfl rfl rfl fun a hF => ?_
      refine E.nil ?_
      refine wp_seq ?_
      refine wp_seq ?_
      refine E.seq ?_
      refine E.call hF (r_call Try.func45 en45.1 en45.2 map0) (awake5_any _) rfl rfl rfl rfl ?_
      rintro e w4 ⟨rfl, bb⟩
      refine ⟨_, rfl, ?_⟩
      intro a hF
      replace ia1 := ia1.below bb
      replace ib1 := ib1.below bb
      replace ia2 := ia2.below bb
      replace ib2 := ib2.below bb
      replace ia3 := ia3.below bb
      replace ib3 := ib3.below bb
      replace o3 := o3.below bb
      replace o4 := o4.below bb
      replace o5 := o5.below bb
      replace bel := below_to bel bb
      clear bb
      refine E.opv hF (r_un (hF.at 0 rfl) (bn_not _ false rfl)) rfl rfl rfl rfl fun a hF => ?_
      refine E.nil ?_
      refine wp_cond_false (hF.at 0 rfl) ?_
      refine wp_skip ?_
      refine E.norm ?_
      refine wp_seq ?_
      refine E.drawn 9 mixed hF [13, 14, 15, 16, 17, 18, 7, 8, 9] [(fun _ v => v = .agg #[.bool nega1, .slice aa1 na1 ca1, .bool negb1, .slice ab1 nb1 cb1]), (fun w v => Rq w v (((rawZ nega1 xa1 4 : Int) : Rat) / ((rawZ negb1 xb1 4 : Int) : Rat))), (fun _ v => v = .agg #[.bool nega2, .slice aa2 na2 ca2, .bool negb2, .slice ab2 nb2 cb2]), (fun w v => Rq w v (((rawZ nega2 xa2 4 : Int) : Rat) / ((rawZ negb2 xb2 4 : Int) : Rat))), (fun _ v => v = .agg #[.bool nega3, .slice aa3 na3 ca3, .bool negb3, .slice ab3 nb3 cb3]), (fun w v => Rq w v (((rawZ nega3 xa3 4 : Int) : Rat) / ((rawZ negb3 xb3 4 : Int) : Rat))), (fun w v => ∃ g, v = .pointer (some ⟨g, 0, none⟩) ∧ w4.heap.size ≤ g ∧ Own w g [.bool false, .slice none 0 0, .slice none 0 0]), (fun w v => ∃ g, v = .pointer (some ⟨g, 0, none⟩) ∧ w4.heap.size ≤ g ∧ Own w g [.bool false, .slice none 0 0, .slice none 0 0]), (fun w v => ∃ g, v = .pointer (some ⟨g, 0, none⟩) ∧ w4.heap.size ≤ g ∧ Own w g [.bool false, .slice none 0 0, .slice none 0 0])] [6, 7, 8] (by decide +kernel) (by decide +kernel) rfl rfl rfl ⟨(Mb.eq _), (fun _ _ _ h hb => h.below hb), (Mb.eq _), (fun _ _ _ h hb => h.below hb), (Mb.eq _), (fun _ _ _ h hb => h.below hb), (fun _ _ _ ⟨g, e, l, o⟩ hb => ⟨g, e, l, o.below hb⟩), (fun _ _ _ ⟨g, e, l, o⟩ hb => ⟨g, e, l, o.below hb⟩), (fun _ _ _ ⟨g, e, l, o⟩ hb => ⟨g, e, l, o.below hb⟩), trivial⟩ ⟨fun _ _ ⟨g, e, _, o⟩ => ⟨g, e, o.lt⟩, ⟨fun _ _ ⟨g, e, _, o⟩ => ⟨g, e, o.lt⟩, ⟨fun _ _ ⟨g, e, _, o⟩ => ⟨g, e, o.lt⟩, trivial⟩⟩⟩ ⟨?_, ?_, ?_, ?_, ?_, ?_, ?_, ?_, ?_, trivial⟩ ?_
      · intro a' w' hF' hb hd
        exact if_does (wanted_free rfl) (Does.vals (r_load (hF'.at 5 rfl) (ld_Raw5 (vs := [.bool nega1, .slice aa1 na1 ca1, .bool negb1, .slice ab1 nb1 cb1]) (o3.below hb) rfl rfl)) ⟨rfl, Below.refl _ _, (fun h => absurd h (by decide))⟩)
      · intro a' w' hF' hb hd
        have e13 : a'.tmps.getD 13 undef = .agg #[.bool nega1, .slice aa1 na1 ca1, .bool negb1, .slice ab1 nb1 cb1] := hd _ 13 (Array.mem_of_getElem? (i := 0) rfl) rfl rfl
        refine if_does (wanted_free rfl) (Does.calls (r_call Try.func46 en46.1 en46.2 (map2 e13 ev_c)) (Own5_any nega1 aa1 na1 ca1 xa1 negb1 ab1 nb1 cb1 xb1 4 _ (ia1.below hb) (ib1.below hb) (by omega)) ?_)
        rintro e w'' ⟨v', rfl, h', bb⟩
        exact ⟨_, rfl, h', bb, (fun h => absurd h (by decide))⟩
      · intro a' w' hF' hb hd
        exact if_does (wanted_free rfl) (Does.vals (r_load (hF'.at 4 rfl) (ld_Raw5 (vs := [.bool nega2, .slice aa2 na2 ca2, .bool negb2, .slice ab2 nb2 cb2]) (o4.below hb) rfl rfl)) ⟨rfl, Below.refl _ _, (fun h => absurd h (by decide))⟩)
      · intro a' w' hF' hb hd
        have e15 : a'.tmps.getD 15 undef = .agg #[.bool nega2, .slice aa2 na2 ca2, .bool negb2, .slice ab2 nb2 cb2] := hd _ 15 (Array.mem_of_getElem? (i := 0) rfl) rfl rfl
        refine if_does (wanted_free rfl) (Does.calls (r_call Try.func46 en46.1 en46.2 (map2 e15 ev_c)) (Own5_any nega2 aa2 na2 ca2 xa2 negb2 ab2 nb2 cb2 xb2 4 _ (ia2.below hb) (ib2.below hb) (by omega)) ?_)
        rintro e w'' ⟨v', rfl, h', bb⟩
        exact ⟨_, rfl, h', bb, (fun h => absurd h (by decide))⟩
      · intro a' w' hF' hb hd
        exact if_does (wanted_free rfl) (Does.vals (r_load (hF'.at 3 rfl) (ld_Raw5 (vs := [.bool nega3, .slice aa3 na3 ca3, .bool negb3, .slice ab3 nb3 cb3]) (o5.below hb) rfl rfl)) ⟨rfl, Below.refl _ _, (fun h => absurd h (by decide))⟩)
      · intro a' w' hF' hb hd
        have e17 : a'.tmps.getD 17 undef = .agg #[.bool nega3, .slice aa3 na3 ca3, .bool negb3, .slice ab3 nb3 cb3] := hd _ 17 (Array.mem_of_getElem? (i := 0) rfl) rfl rfl
        refine if_does (wanted_free rfl) (Does.calls (r_call Try.func46 en46.1 en46.2 (map2 e17 ev_c)) (Own5_any nega3 aa3 na3 ca3 xa3 negb3 ab3 nb3 cb3 xb3 4 _ (ia3.below hb) (ib3.below hb) (by omega)) ?_)
        rintro e w'' ⟨v', rfl, h', bb⟩
        exact ⟨_, rfl, h', bb, (fun h => absurd h (by decide))⟩
      · intro a' w' hF' hb hd
        obtain ⟨g, w2, ge, hr, bb, on⟩ := own_alloc (P := Try.prog) (w := w') (cs := [.bool false, .slice none 0 0, .slice none 0 0]) 76 ze_Rat rfl (niB (niS (niS ni0)))
        subst ge
        exact if_does (wanted_free rfl) (Does.vals (r_alloc hr) ⟨⟨_, rfl, hb.size, on⟩, bb, fun _ => rfl⟩)
      · intro a' w' hF' hb hd
        obtain ⟨g, w2, ge, hr, bb, on⟩ := own_alloc (P := Try.prog) (w := w') (cs := [.bool false, .slice none 0 0, .slice none 0 0]) 76 ze_Rat rfl (niB (niS (niS ni0)))
        subst ge
        exact if_does (wanted_free rfl) (Does.vals (r_alloc hr) ⟨⟨_, rfl, hb.size, on⟩, bb, fun _ => rfl⟩)
      · intro a' w' hF' hb hd
        obtain ⟨g, w2, ge, hr, bb, on⟩ := own_alloc (P := Try.prog) (w := w') (cs := [.bool false, .slice none 0 0, .slice none 0 0]) 76 ze_Rat rfl (niB (niS (niS ni0)))
        subst ge
        exact if_does (wanted_free rfl) (Does.vals (r_alloc hr) ⟨⟨_, rfl, hb.size, on⟩, bb, fun _ => rfl⟩)
      intro a w5 hF bb hall hne
      obtain ⟨vv6, e14, hh7⟩ : ∃ v, a.tmps.getD 14 undef = v ∧ Rq w5 v (((rawZ nega1 xa1 4 : Int) : Rat) / ((rawZ negb1 xb1 4 : Int) : Rat)) := ⟨_, rfl, hall 1 14 rfl⟩
      obtain ⟨vv8, e16, hh9⟩ : ∃ v, a.tmps.getD 16 undef = v ∧ Rq w5 v (((rawZ nega2 xa2 4 : Int) : Rat) / ((rawZ negb2 xb2 4 : Int) : Rat)) := ⟨_, rfl, hall 3 16 rfl⟩
      obtain ⟨vv10, e18, hh11⟩ : ∃ v, a.tmps.getD 18 undef = v ∧ Rq w5 v (((rawZ nega3 xa3 4 : Int) : Rat) / ((rawZ negb3 xb3 4 : Int) : Rat)) := ⟨_, rfl, hall 5 18 rfl⟩
      obtain ⟨g7, e7, ge7, o7⟩ : ∃ g, a.tmps.getD 7 undef = .pointer (some ⟨g, 0, none⟩) ∧ w4.heap.size ≤ g ∧ Own w5 g [.bool false, .slice none 0 0, .slice none 0 0] := hall 6 7 rfl
      obtain ⟨g8, e8, ge8, o8⟩ : ∃ g, a.tmps.getD 8 undef = .pointer (some ⟨g, 0, none⟩) ∧ w4.heap.size ≤ g ∧ Own w5 g [.bool false, .slice none 0 0, .slice none 0 0] := hall 7 8 rfl
      have ne7_8 : g7 ≠ g8 := by intro e; exact hne 6 7 7 8 rfl rfl (by decide) rfl rfl (by rw [e7, e8, e])
      obtain ⟨g9, e9, ge9, o9⟩ : ∃ g, a.tmps.getD 9 undef = .pointer (some ⟨g, 0, none⟩) ∧ w4.heap.size ≤ g ∧ Own w5 g [.bool false, .slice none 0 0, .slice none 0 0] := hall 8 9 rfl
      have ne7_9 : g7 ≠ g9 := by intro e; exact hne 6 8 7 9 rfl rfl (by decide) rfl rfl (by rw [e7, e9, e])
      have ne8_9 : g8 ≠ g9 := by intro e; exact hne 7 8 8 9 rfl rfl (by decide) rfl rfl (by rw [e8, e9, e])
      replace ge7 : w.heap.size ≤ g7 := Nat.le_trans bel.size ge7
      replace ge8 : w.heap.size ≤ g8 := Nat.le_trans bel.size ge8
      replace ge9 : w.heap.size ≤ g9 := Nat.le_trans bel.size ge9
      clear hall hne
      replace bel := below_to bel bb
      clear bb
      obtain ⟨b12, ad12, n12, c12, ae12, m12, d12, rfl, hn12, hd12⟩ := Rq.shape hh7
      have hf13 := Wc.abs hn12
      replace hF := hF.add e14
      clear e14
      obtain ⟨b14, ad14, n14, c14, ae14, m14, d14, rfl, hn14, hd14⟩ := Rq.shape hh9
      have hf15 := Wc.abs hn14
      replace hF := hF.add e16
      clear e16
      obtain ⟨b16, ad16, n16, c16, ae16, m16, d16, rfl, hn16, hd16⟩ := Rq.shape hh11
      have hf17 := Wc.abs hn16
      replace hF := hF.add e18
      clear e18
      replace hF := hF.add e7
      clear e7
      replace hF := hF.add e8
      clear e8
      replace hF := hF.add e9
      clear e9
      obtain ⟨w18, hr, tu, on⟩ := st_Rat (vs := [.bool b12, .slice ad12 n12 c12, .slice ae12 m12 d12]) o7 rfl rfl (ocB (ocS (ocS oc0))) (niB (niS (niS ni0))) (o := 0) rfl
      have kp := tu.keep o7
      refine E.st hF (r_store (hF.at 2 rfl) (hF.at 5 rfl) (hr _ rfl)) rfl rfl fun a hF => ?_
      clear hr
      replace hh11 := hh11.keep kp
      replace hn16 := hn16.keep kp
      replace hf17 := hf17.keep kp
      replace hd16 := hd16.keep kp
      replace hh9 := hh9.keep kp
      replace hn14 := hn14.keep kp
      replace hf15 := hf15.keep kp
      replace hd14 := hd14.keep kp
      replace hh7 := hh7.keep kp
      replace hn12 := hn12.keep kp
      replace hf13 := hf13.keep kp
      replace hd12 := hd12.keep kp
      replace o8 := tu.own o8 (Ne.symm ne7_8)
      replace o9 := tu.own o9 (Ne.symm ne7_9)
      replace bel := tu.below bel ge7
      clear tu kp
      replace o7 := on
      clear on
      obtain ⟨w19, hr, tu, on⟩ := st_Rat (vs := [.bool b14, .slice ad14 n14 c14, .slice ae14 m14 d14]) o8 rfl rfl (ocB (ocS (ocS oc0))) (niB (niS (niS ni0))) (o := 0) rfl
      have kp := tu.keep o8
      refine E.st hF (r_store (hF.at 1 rfl) (hF.at 4 rfl) (hr _ rfl)) rfl rfl fun a hF => ?_
      clear hr
      replace hh11 := hh11.keep kp
      replace hn16 := hn16.keep kp
      replace hf17 := hf17.keep kp
      replace hd16 := hd16.keep kp
      replace hf13 := hf13.keep kp
      replace hd12 := hd12.keep kp
      replace hh7 := hh7.keep kp
      replace hn12 := hn12.keep kp
      replace hh9 := hh9.keep kp
      replace hn14 := hn14.keep kp
      replace hf15 := hf15.keep kp
      replace hd14 := hd14.keep kp
      replace o7 := tu.own o7 ne7_8
      replace o9 := tu.own o9 (Ne.symm ne8_9)
      replace bel := tu.below bel ge8
      clear tu kp
      replace o8 := on
      clear on
      obtain ⟨w20, hr, tu, on⟩ := st_Rat (vs := [.bool b16, .slice ad16 n16 c16, .slice ae16 m16 d16]) o9 rfl rfl (ocB (ocS (ocS oc0))) (niB (niS (niS ni0))) (o := 0) rfl
      have kp := tu.keep o9
      refine E.st hF (r_store (hF.at 0 rfl) (hF.at 3 rfl) (hr _ rfl)) rfl rfl fun a hF => ?_
      clear hr
      replace hf13 := hf13.keep kp
      replace hd12 := hd12.keep kp
      replace hh7 := hh7.keep kp
      replace hn12 := hn12.keep kp
      replace hf15 := hf15.keep kp
      replace hd14 := hd14.keep kp
      replace hh9 := hh9.keep kp
      replace hn14 := hn14.keep kp
      replace hh11 := hh11.keep kp
      replace hn16 := hn16.keep kp
      replace hf17 := hf17.keep kp
      replace hd16 := hd16.keep kp
      replace o7 := tu.own o7 ne7_9
      replace o8 := tu.own o8 ne8_9
      replace bel := tu.below bel ge9
      clear tu kp
      replace o9 := on
      clear on
      refine E.nil ?_
      refine wp_seq ?_
      refine E.seq ?_
      refine E.opv hF (r_load (hF.at 2 rfl) (ld_Rat (vs := [.bool b12, .slice ad12 n12 c12, .slice ae12 m12 d12]) o7 rfl rfl)) rfl rfl rfl rfl fun a hF => ?_
      refine E.opv hF (r_load (hF.at 2 rfl) (ld_Rat (vs := [.bool b14, .slice ad14 n14 c14, .slice ae14 m14 d14]) o8 rfl rfl)) rfl rfl rfl rfl fun a hF => ?_
      refine E.call hF (r_call Try.func68 en68.1 en68.2 (map2 (hF.at 1 rfl) (hF.at 0 rfl))) (rCmp_any _ _ (((rawZ nega1 xa1 4 : Int) : Rat) / ((rawZ negb1 xb1 4 : Int) : Rat)) (((rawZ nega2 xa2 4 : Int) : Rat) / ((rawZ negb2 xb2 4 : Int) : Rat)) 4 _ hh7 hh9 ((own5_lim nega1 negb1 oka1 okb1 4 (by decide)).up _ (by omega)) ((own5_lim nega2 negb2 oka2 okb2 4 (by decide)).up _ (by omega)) (by omega)) rfl rfl rfl rfl ?_
      rintro e w21 ⟨rfl, bb⟩
      refine ⟨_, rfl, ?_⟩
      intro a hF
      replace hf13 := hf13.below bb
      replace hd12 := hd12.below bb
      replace hh7 := hh7.below bb
      replace hn12 := hn12.below bb
      replace hf15 := hf15.below bb
      replace hd14 := hd14.below bb
      replace hh9 := hh9.below bb
      replace hn14 := hn14.below bb
      replace hf17 := hf17.below bb
      replace hd16 := hd16.below bb
      replace hh11 := hh11.below bb
      replace hn16 := hn16.below bb
      replace o7 := o7.below bb
      replace o8 := o8.below bb
      replace o9 := o9.below bb
      replace bel := below_to bel bb
      clear bb
      refine E.opv hF (r_assign (hF.at 0 rfl)) rfl rfl rfl rfl fun a hF => ?_
      refine E.nil ?_
      refine wp_seq ?_
      refine wp_seq ?_
      refine E.drawn 39 mixed hF [22, 23, 24, 25, 26, 27, 28, 29, 30, 31, 32, 33, 34, 35, 36, 37, 38, 39, 40, 41, 42, 43, 44, 45, 46, 47, 48, 49, 50, 51, 52, 53, 54, 55, 56, 57, 58, 59, 60] [(fun _ v => v = .agg #[.bool b14, .slice ad14 n14 c14, .slice ae14 m14 d14]), (fun _ v => v = .agg #[.bool b12, .slice ad12 n12 c12, .slice ae12 m12 d12]), (fun _ v => v = .int .i64 (qc (((rawZ nega2 xa2 4 : Int) : Rat) / ((rawZ negb2 xb2 4 : Int) : Rat)) (((rawZ nega1 xa1 4 : Int) : Rat) / ((rawZ negb1 xb1 4 : Int) : Rat)))), (fun _ v => v = .int .i64 (qc (((rawZ nega1 xa1 4 : Int) : Rat) / ((rawZ negb1 xb1 4 : Int) : Rat)) (((rawZ nega2 xa2 4 : Int) : Rat) / ((rawZ negb2 xb2 4 : Int) : Rat)))), (fun _ v => v = .int .i64 (-(qc (((rawZ nega1 xa1 4 : Int) : Rat) / ((rawZ negb1 xb1 4 : Int) : Rat)) (((rawZ nega2 xa2 4 : Int) : Rat) / ((rawZ negb2 xb2 4 : Int) : Rat))))), (fun _ v => v = .bool false), (fun _ v => v = .bool false), (fun _ v => v = .agg #[.bool b12, .slice ad12 n12 c12, .slice ae12 m12 d12]), (fun _ v => v = .agg #[.bool b16, .slice ad16 n16 c16, .slice ae16 m16 d16]), (fun w v => Rq w v ((((rawZ nega1 xa1 4 : Int) : Rat) / ((rawZ negb1 xb1 4 : Int) : Rat)) + (((rawZ nega3 xa3 4 : Int) : Rat) / ((rawZ negb3 xb3 4 : Int) : Rat)))), (fun _ v => v = .agg #[.bool b14, .slice ad14 n14 c14, .slice ae14 m14 d14]), (fun _ v => v = .agg #[.bool b16, .slice ad16 n16 c16, .slice ae16 m16 d16]), (fun w v => Rq w v ((((rawZ nega2 xa2 4 : Int) : Rat) / ((rawZ negb2 xb2 4 : Int) : Rat)) + (((rawZ nega3 xa3 4 : Int) : Rat) / ((rawZ negb3 xb3 4 : Int) : Rat)))), (fun _ v => v = .int .i64 (qc ((((rawZ nega1 xa1 4 : Int) : Rat) / ((rawZ negb1 xb1 4 : Int) : Rat)) + (((rawZ nega3 xa3 4 : Int) : Rat) / ((rawZ negb3 xb3 4 : Int) : Rat))) ((((rawZ nega2 xa2 4 : Int) : Rat) / ((rawZ negb2 xb2 4 : Int) : Rat)) + (((rawZ nega3 xa3 4 : Int) : Rat) / ((rawZ negb3 xb3 4 : Int) : Rat))))), (fun _ v => v = .int .i64 (qc (((rawZ nega1 xa1 4 : Int) : Rat) / ((rawZ negb1 xb1 4 : Int) : Rat)) (((rawZ nega2 xa2 4 : Int) : Rat) / ((rawZ negb2 xb2 4 : Int) : Rat)))), (fun _ v => v = .bool false), (fun _ v => v = .bool false), (fun _ v => v = .bool false), (fun _ v => v = .agg #[.bool b12, .slice ad12 n12 c12, .slice ae12 m12 d12]), (fun _ v => v = .agg #[.bool b16, .slice ad16 n16 c16, .slice ae16 m16 d16]), (fun w v => Rq w v ((((rawZ nega1 xa1 4 : Int) : Rat) / ((rawZ negb1 xb1 4 : Int) : Rat)) * (((rawZ nega3 xa3 4 : Int) : Rat) / ((rawZ negb3 xb3 4 : Int) : Rat)))), (fun _ v => v = .agg #[.bool b14, .slice ad14 n14 c14, .slice ae14 m14 d14]), (fun _ v => v = .agg #[.bool b16, .slice ad16 n16 c16, .slice ae16 m16 d16]), (fun w v => Rq w v ((((rawZ nega2 xa2 4 : Int) : Rat) / ((rawZ negb2 xb2 4 : Int) : Rat)) * (((rawZ nega3 xa3 4 : Int) : Rat) / ((rawZ negb3 xb3 4 : Int) : Rat)))), (fun _ v => v = .int .i64 (qc ((((rawZ nega1 xa1 4 : Int) : Rat) / ((rawZ negb1 xb1 4 : Int) : Rat)) * (((rawZ nega3 xa3 4 : Int) : Rat) / ((rawZ negb3 xb3 4 : Int) : Rat))) ((((rawZ nega2 xa2 4 : Int) : Rat) / ((rawZ negb2 xb2 4 : Int) : Rat)) * (((rawZ nega3 xa3 4 : Int) : Rat) / ((rawZ negb3 xb3 4 : Int) : Rat))))), (fun _ v => v = .int .i64 (qc (((rawZ nega1 xa1 4 : Int) : Rat) / ((rawZ negb1 xb1 4 : Int) : Rat)) (((rawZ nega2 xa2 4 : Int) : Rat) / ((rawZ negb2 xb2 4 : Int) : Rat)))), (fun _ v => v = .agg #[.bool b16, .slice ad16 n16 c16, .slice ae16 m16 d16]), (fun _ v => v = .int .i64 (sz (Rat.num (((rawZ nega3 xa3 4 : Int) : Rat) / ((rawZ negb3 xb3 4 : Int) : Rat))))), (fun _ v => v = .int .i64 ((qc (((rawZ nega1 xa1 4 : Int) : Rat) / ((rawZ negb1 xb1 4 : Int) : Rat)) (((rawZ nega2 xa2 4 : Int) : Rat) / ((rawZ negb2 xb2 4 : Int) : Rat))) * (sz (Rat.num (((rawZ nega3 xa3 4 : Int) : Rat) / ((rawZ negb3 xb3 4 : Int) : Rat)))))), (fun _ v => v = .bool false), (fun _ v => v = .bool false), (fun _ v => v = .bool false), (fun _ v => v = .agg #[.bool b12, .slice ad12 n12 c12, .slice ae12 m12 d12]), (fun _ v => v = .agg #[.bool b14, .slice ad14 n14 c14, .slice ae14 m14 d14]), (fun w v => Rq w v ((((rawZ nega1 xa1 4 : Int) : Rat) / ((rawZ negb1 xb1 4 : Int) : Rat)) - (((rawZ nega2 xa2 4 : Int) : Rat) / ((rawZ negb2 xb2 4 : Int) : Rat)))), (fun _ v => v = .int .i64 (sz (Rat.num ((((rawZ nega1 xa1 4 : Int) : Rat) / ((rawZ negb1 xb1 4 : Int) : Rat)) - (((rawZ nega2 xa2 4 : Int) : Rat) / ((rawZ negb2 xb2 4 : Int) : Rat)))))), (fun _ v => v = .int .i64 (qc (((rawZ nega1 xa1 4 : Int) : Rat) / ((rawZ negb1 xb1 4 : Int) : Rat)) (((rawZ nega2 xa2 4 : Int) : Rat) / ((rawZ negb2 xb2 4 : Int) : Rat)))), (fun _ v => v = .bool false), (fun _ v => v = .bool false)] [] (by decide +kernel) (by decide +kernel) rfl rfl rfl ⟨(Mb.eq _), (Mb.eq _), (Mb.eq _), (Mb.eq _), (Mb.eq _), (Mb.eq _), (Mb.eq _), (Mb.eq _), (Mb.eq _), (fun _ _ _ h hb => h.below hb), (Mb.eq _), (Mb.eq _), (fun _ _ _ h hb => h.below hb), (Mb.eq _), (Mb.eq _), (Mb.eq _), (Mb.eq _), (Mb.eq _), (Mb.eq _), (Mb.eq _), (fun _ _ _ h hb => h.below hb), (Mb.eq _), (Mb.eq _), (fun _ _ _ h hb => h.below hb), (Mb.eq _), (Mb.eq _), (Mb.eq _), (Mb.eq _), (Mb.eq _), (Mb.eq _), (Mb.eq _), (Mb.eq _), (Mb.eq _), (Mb.eq _), (fun _ _ _ h hb => h.below hb), (Mb.eq _), (Mb.eq _), (Mb.eq _), (Mb.eq _), trivial⟩ trivial ⟨?_, ?_, ?_, ?_, ?_, ?_, ?_, ?_, ?_, ?_, ?_, ?_, ?_, ?_, ?_, ?_, ?_, ?_, ?_, ?_, ?_, ?_, ?_, ?_, ?_, ?_, ?_, ?_, ?_, ?_, ?_, ?_, ?_, ?_, ?_, ?_, ?_, ?_, ?_, trivial⟩ ?_
      · intro a' w' hF' hb hd
        exact if_does (wanted_free rfl) (Does.vals (r_load (hF'.at 5 rfl) (ld_Rat (vs := [.bool b14, .slice ad14 n14 c14, .slice ae14 m14 d14]) (o8.below hb) rfl rfl)) ⟨rfl, Below.refl _ _, (fun h => absurd h (by decide))⟩)
      · intro a' w' hF' hb hd
        exact if_does (wanted_free rfl) (Does.vals (r_load (hF'.at 6 rfl) (ld_Rat (vs := [.bool b12, .slice ad12 n12 c12, .slice ae12 m12 d12]) (o7.below hb) rfl rfl)) ⟨rfl, Below.refl _ _, (fun h => absurd h (by decide))⟩)
      · intro a' w' hF' hb hd
        have e22 : a'.tmps.getD 22 undef = .agg #[.bool b14, .slice ad14 n14 c14, .slice ae14 m14 d14] := hd _ 22 (Array.mem_of_getElem? (i := 0) rfl) rfl rfl
        have e23 : a'.tmps.getD 23 undef = .agg #[.bool b12, .slice ad12 n12 c12, .slice ae12 m12 d12] := hd _ 23 (Array.mem_of_getElem? (i := 1) rfl) rfl rfl
        refine if_does (wanted_free rfl) (Does.calls (r_call Try.func68 en68.1 en68.2 (map2 e22 e23)) (rCmp_any _ _ (((rawZ nega2 xa2 4 : Int) : Rat) / ((rawZ negb2 xb2 4 : Int) : Rat)) (((rawZ nega1 xa1 4 : Int) : Rat) / ((rawZ negb1 xb1 4 : Int) : Rat)) 4 _ (hh9.below hb) (hh7.below hb) ((own5_lim nega2 negb2 oka2 okb2 4 (by decide)).up _ (by omega)) ((own5_lim nega1 negb1 oka1 okb1 4 (by decide)).up _ (by omega)) (by omega)) ?_)
        rintro e w'' ⟨rfl, bb⟩
        exact ⟨_, rfl, rfl, bb, (fun h => absurd h (by decide))⟩
      · intro a' w' hF' hb hd
        exact if_does (wanted_free rfl) (Does.vals (r_move (hF'.at 0 rfl)) ⟨rfl, Below.refl _ _, (fun h => absurd h (by decide))⟩)
      · intro a' w' hF' hb hd
        have e25 : a'.tmps.getD 25 undef = .int .i64 (qc (((rawZ nega1 xa1 4 : Int) : Rat) / ((rawZ negb1 xb1 4 : Int) : Rat)) (((rawZ nega2 xa2 4 : Int) : Rat) / ((rawZ negb2 xb2 4 : Int) : Rat))) := hd _ 25 (Array.mem_of_getElem? (i := 0) rfl) rfl rfl
        exact if_does (wanted_free rfl) (Does.vals (r_un e25 (bn_neg (neg_rng (qc_bd _ _)).1 (neg_rng (qc_bd _ _)).2)) ⟨rfl, Below.refl _ _, (fun h => absurd h (by decide))⟩)
      · intro a' w' hF' hb hd
        have e24 : a'.tmps.getD 24 undef = .int .i64 (qc (((rawZ nega2 xa2 4 : Int) : Rat) / ((rawZ negb2 xb2 4 : Int) : Rat)) (((rawZ nega1 xa1 4 : Int) : Rat) / ((rawZ negb1 xb1 4 : Int) : Rat))) := hd _ 24 (Array.mem_of_getElem? (i := 0) rfl) rfl rfl
        have e26 : a'.tmps.getD 26 undef = .int .i64 (-(qc (((rawZ nega1 xa1 4 : Int) : Rat) / ((rawZ negb1 xb1 4 : Int) : Rat)) (((rawZ nega2 xa2 4 : Int) : Rat) / ((rawZ negb2 xb2 4 : Int) : Rat)))) := hd _ 26 (Array.mem_of_getElem? (i := 1) rfl) rfl rfl
        exact if_does (wanted_free rfl) (Does.vals (r_bin e24 e26 eg_scalar (bi_int (ic_neq (c := false) (nex (qc_symm _ _))) (by simp))) ⟨rfl, Below.refl _ _, (fun h => absurd h (by decide))⟩)
      · intro a' w' hF' hb hd
        have e27 : a'.tmps.getD 27 undef = .bool false := hd _ 27 (Array.mem_of_getElem? (i := 0) rfl) rfl rfl
        exact if_does (wanted_free rfl) (Does.vals (r_move e27) ⟨rfl, Below.refl _ _, (fun h => absurd h (by decide))⟩)
      · intro a' w' hF' hb hd
        have e28 : a'.tmps.getD 28 undef = .bool false := hd _ 28 (Array.mem_of_getElem? (i := 0) rfl) rfl rfl
        exact if_does (wanted_by rfl rfl e28 rfl) (Does.vals (r_load (hF'.at 6 rfl) (ld_Rat (vs := [.bool b12, .slice ad12 n12 c12, .slice ae12 m12 d12]) (o7.below hb) rfl rfl)) ⟨rfl, Below.refl _ _, (fun h => absurd h (by decide))⟩)
      · intro a' w' hF' hb hd
        have e28 : a'.tmps.getD 28 undef = .bool false := hd _ 28 (Array.mem_of_getElem? (i := 0) rfl) rfl rfl
        exact if_does (wanted_by rfl rfl e28 rfl) (Does.vals (r_load (hF'.at 4 rfl) (ld_Rat (vs := [.bool b16, .slice ad16 n16 c16, .slice ae16 m16 d16]) (o9.below hb) rfl rfl)) ⟨rfl, Below.refl _ _, (fun h => absurd h (by decide))⟩)
      · intro a' w' hF' hb hd
        have e28 : a'.tmps.getD 28 undef = .bool false := hd _ 28 (Array.mem_of_getElem? (i := 2) rfl) rfl rfl
        have e29 : a'.tmps.getD 29 undef = .agg #[.bool b12, .slice ad12 n12 c12, .slice ae12 m12 d12] := hd _ 29 (Array.mem_of_getElem? (i := 0) rfl) rfl rfl
        have e30 : a'.tmps.getD 30 undef = .agg #[.bool b16, .slice ad16 n16 c16, .slice ae16 m16 d16] := hd _ 30 (Array.mem_of_getElem? (i := 1) rfl) rfl rfl
        refine if_does (wanted_by rfl rfl e28 rfl) (Does.calls (r_call Try.func60 en60.1 en60.2 (map2 e29 e30)) (rAdd_any _ _ (((rawZ nega1 xa1 4 : Int) : Rat) / ((rawZ negb1 xb1 4 : Int) : Rat)) (((rawZ nega3 xa3 4 : Int) : Rat) / ((rawZ negb3 xb3 4 : Int) : Rat)) 4 _ (hh7.below hb) (hh11.below hb) ((own5_lim nega1 negb1 oka1 okb1 4 (by decide)).up _ (by omega)) ((own5_lim nega3 negb3 oka3 okb3 4 (by decide)).up _ (by omega)) (by omega)) ?_)
        rintro e w'' ⟨v', rfl, h', bb⟩
        exact ⟨_, rfl, h', bb, (fun h => absurd h (by decide))⟩
      · intro a' w' hF' hb hd
        have e28 : a'.tmps.getD 28 undef = .bool false := hd _ 28 (Array.mem_of_getElem? (i := 0) rfl) rfl rfl
        exact if_does (wanted_by rfl rfl e28 rfl) (Does.vals (r_load (hF'.at 5 rfl) (ld_Rat (vs := [.bool b14, .slice ad14 n14 c14, .slice ae14 m14 d14]) (o8.below hb) rfl rfl)) ⟨rfl, Below.refl _ _, (fun h => absurd h (by decide))⟩)
      · intro a' w' hF' hb hd
        have e28 : a'.tmps.getD 28 undef = .bool false := hd _ 28 (Array.mem_of_getElem? (i := 0) rfl) rfl rfl
        exact if_does (wanted_by rfl rfl e28 rfl) (Does.vals (r_load (hF'.at 4 rfl) (ld_Rat (vs := [.bool b16, .slice ad16 n16 c16, .slice ae16 m16 d16]) (o9.below hb) rfl rfl)) ⟨rfl, Below.refl _ _, (fun h => absurd h (by decide))⟩)
      · intro a' w' hF' hb hd
        have e28 : a'.tmps.getD 28 undef = .bool false := hd _ 28 (Array.mem_of_getElem? (i := 3) rfl) rfl rfl
        have e32 : a'.tmps.getD 32 undef = .agg #[.bool b14, .slice ad14 n14 c14, .slice ae14 m14 d14] := hd _ 32 (Array.mem_of_getElem? (i := 0) rfl) rfl rfl
        have e33 : a'.tmps.getD 33 undef = .agg #[.bool b16, .slice ad16 n16 c16, .slice ae16 m16 d16] := hd _ 33 (Array.mem_of_getElem? (i := 1) rfl) rfl rfl
        refine if_does (wanted_by rfl rfl e28 rfl) (Does.calls (r_call Try.func60 en60.1 en60.2 (map2 e32 e33)) (rAdd_any _ _ (((rawZ nega2 xa2 4 : Int) : Rat) / ((rawZ negb2 xb2 4 : Int) : Rat)) (((rawZ nega3 xa3 4 : Int) : Rat) / ((rawZ negb3 xb3 4 : Int) : Rat)) 4 _ (hh9.below hb) (hh11.below hb) ((own5_lim nega2 negb2 oka2 okb2 4 (by decide)).up _ (by omega)) ((own5_lim nega3 negb3 oka3 okb3 4 (by decide)).up _ (by omega)) (by omega)) ?_)
        rintro e w'' ⟨v', rfl, h', bb⟩
        exact ⟨_, rfl, h', bb, (fun h => absurd h (by decide))⟩
      · intro a' w' hF' hb hd
        have e28 : a'.tmps.getD 28 undef = .bool false := hd _ 28 (Array.mem_of_getElem? (i := 3) rfl) rfl rfl
        obtain ⟨v31_0, e31, h31_1⟩ : ∃ v, a'.tmps.getD 31 undef = v ∧ Rq w' v ((((rawZ nega1 xa1 4 : Int) : Rat) / ((rawZ negb1 xb1 4 : Int) : Rat)) + (((rawZ nega3 xa3 4 : Int) : Rat) / ((rawZ negb3 xb3 4 : Int) : Rat))) := ⟨_, rfl, hd _ 31 (Array.mem_of_getElem? (i := 0) rfl) rfl rfl⟩
        obtain ⟨v34_0, e34, h34_1⟩ : ∃ v, a'.tmps.getD 34 undef = v ∧ Rq w' v ((((rawZ nega2 xa2 4 : Int) : Rat) / ((rawZ negb2 xb2 4 : Int) : Rat)) + (((rawZ nega3 xa3 4 : Int) : Rat) / ((rawZ negb3 xb3 4 : Int) : Rat))) := ⟨_, rfl, hd _ 34 (Array.mem_of_getElem? (i := 1) rfl) rfl rfl⟩
        refine if_does (wanted_by rfl rfl e28 rfl) (Does.calls (r_call Try.func68 en68.1 en68.2 (map2 e31 e34)) (rCmp_any _ _ ((((rawZ nega1 xa1 4 : Int) : Rat) / ((rawZ negb1 xb1 4 : Int) : Rat)) + (((rawZ nega3 xa3 4 : Int) : Rat) / ((rawZ negb3 xb3 4 : Int) : Rat))) ((((rawZ nega2 xa2 4 : Int) : Rat) / ((rawZ negb2 xb2 4 : Int) : Rat)) + (((rawZ nega3 xa3 4 : Int) : Rat) / ((rawZ negb3 xb3 4 : Int) : Rat))) (4 + 4 + 1) _ h31_1 h34_1 ((rlim_add (own5_lim nega1 negb1 oka1 okb1 4 (by decide)) (own5_lim nega3 negb3 oka3 okb3 4 (by decide))).up _ (by omega)) ((rlim_add (own5_lim nega2 negb2 oka2 okb2 4 (by decide)) (own5_lim nega3 negb3 oka3 okb3 4 (by decide))).up _ (by omega)) (by omega)) ?_)
        rintro e w'' ⟨rfl, bb⟩
        exact ⟨_, rfl, rfl, bb, (fun h => absurd h (by decide))⟩
      · intro a' w' hF' hb hd
        have e28 : a'.tmps.getD 28 undef = .bool false := hd _ 28 (Array.mem_of_getElem? (i := 0) rfl) rfl rfl
        exact if_does (wanted_by rfl rfl e28 rfl) (Does.vals (r_move (hF'.at 0 rfl)) ⟨rfl, Below.refl _ _, (fun h => absurd h (by decide))⟩)
      · intro a' w' hF' hb hd
        have e28 : a'.tmps.getD 28 undef = .bool false := hd _ 28 (Array.mem_of_getElem? (i := 2) rfl) rfl rfl
        have e35 : a'.tmps.getD 35 undef = .int .i64 (qc ((((rawZ nega1 xa1 4 : Int) : Rat) / ((rawZ negb1 xb1 4 : Int) : Rat)) + (((rawZ nega3 xa3 4 : Int) : Rat) / ((rawZ negb3 xb3 4 : Int) : Rat))) ((((rawZ nega2 xa2 4 : Int) : Rat) / ((rawZ negb2 xb2 4 : Int) : Rat)) + (((rawZ nega3 xa3 4 : Int) : Rat) / ((rawZ negb3 xb3 4 : Int) : Rat)))) := hd _ 35 (Array.mem_of_getElem? (i := 0) rfl) rfl rfl
        have e36 : a'.tmps.getD 36 undef = .int .i64 (qc (((rawZ nega1 xa1 4 : Int) : Rat) / ((rawZ negb1 xb1 4 : Int) : Rat)) (((rawZ nega2 xa2 4 : Int) : Rat) / ((rawZ negb2 xb2 4 : Int) : Rat))) := hd _ 36 (Array.mem_of_getElem? (i := 1) rfl) rfl rfl
        exact if_does (wanted_by rfl rfl e28 rfl) (Does.vals (r_bin e35 e36 eg_scalar (bi_int (ic_neq (c := false) (nex (qc_add _ _ _))) (by simp))) ⟨rfl, Below.refl _ _, (fun h => absurd h (by decide))⟩)
      · intro a' w' hF' hb hd
        have e28 : a'.tmps.getD 28 undef = .bool false := hd _ 28 (Array.mem_of_getElem? (i := 0) rfl) rfl rfl
        have e37 : a'.tmps.getD 37 undef = .bool false := hd _ 37 (Array.mem_of_getElem? (i := 1) rfl) rfl rfl
        exact if_does (wanted_free rfl) (Does.vals (r_pick_f e28 e37) ⟨rfl, Below.refl _ _, (fun h => absurd h (by decide))⟩)
      · intro a' w' hF' hb hd
        have e38 : a'.tmps.getD 38 undef = .bool false := hd _ 38 (Array.mem_of_getElem? (i := 0) rfl) rfl rfl
        exact if_does (wanted_free rfl) (Does.vals (r_move e38) ⟨rfl, Below.refl _ _, (fun h => absurd h (by decide))⟩)
      · intro a' w' hF' hb hd
        have e39 : a'.tmps.getD 39 undef = .bool false := hd _ 39 (Array.mem_of_getElem? (i := 0) rfl) rfl rfl
        exact if_does (wanted_by rfl rfl e39 rfl) (Does.vals (r_load (hF'.at 6 rfl) (ld_Rat (vs := [.bool b12, .slice ad12 n12 c12, .slice ae12 m12 d12]) (o7.below hb) rfl rfl)) ⟨rfl, Below.refl _ _, (fun h => absurd h (by decide))⟩)
      · intro a' w' hF' hb hd
        have e39 : a'.tmps.getD 39 undef = .bool false := hd _ 39 (Array.mem_of_getElem? (i := 0) rfl) rfl rfl
        exact if_does (wanted_by rfl rfl e39 rfl) (Does.vals (r_load (hF'.at 4 rfl) (ld_Rat (vs := [.bool b16, .slice ad16 n16 c16, .slice ae16 m16 d16]) (o9.below hb) rfl rfl)) ⟨rfl, Below.refl _ _, (fun h => absurd h (by decide))⟩)
      · intro a' w' hF' hb hd
        have e39 : a'.tmps.getD 39 undef = .bool false := hd _ 39 (Array.mem_of_getElem? (i := 2) rfl) rfl rfl
        have e40 : a'.tmps.getD 40 undef = .agg #[.bool b12, .slice ad12 n12 c12, .slice ae12 m12 d12] := hd _ 40 (Array.mem_of_getElem? (i := 0) rfl) rfl rfl
        have e41 : a'.tmps.getD 41 undef = .agg #[.bool b16, .slice ad16 n16 c16, .slice ae16 m16 d16] := hd _ 41 (Array.mem_of_getElem? (i := 1) rfl) rfl rfl
        refine if_does (wanted_by rfl rfl e39 rfl) (Does.calls (r_call Try.func64 en64.1 en64.2 (map2 e40 e41)) (rMul_any _ _ (((rawZ nega1 xa1 4 : Int) : Rat) / ((rawZ negb1 xb1 4 : Int) : Rat)) (((rawZ nega3 xa3 4 : Int) : Rat) / ((rawZ negb3 xb3 4 : Int) : Rat)) 4 _ (hh7.below hb) (hh11.below hb) ((own5_lim nega1 negb1 oka1 okb1 4 (by decide)).up _ (by omega)) ((own5_lim nega3 negb3 oka3 okb3 4 (by decide)).up _ (by omega)) (by omega)) ?_)
        rintro e w'' ⟨v', rfl, h', bb⟩
        exact ⟨_, rfl, h', bb, (fun h => absurd h (by decide))⟩
      · intro a' w' hF' hb hd
        have e39 : a'.tmps.getD 39 undef = .bool false := hd _ 39 (Array.mem_of_getElem? (i := 0) rfl) rfl rfl
        exact if_does (wanted_by rfl rfl e39 rfl) (Does.vals (r_load (hF'.at 5 rfl) (ld_Rat (vs := [.bool b14, .slice ad14 n14 c14, .slice ae14 m14 d14]) (o8.below hb) rfl rfl)) ⟨rfl, Below.refl _ _, (fun h => absurd h (by decide))⟩)
      · intro a' w' hF' hb hd
        have e39 : a'.tmps.getD 39 undef = .bool false := hd _ 39 (Array.mem_of_getElem? (i := 0) rfl) rfl rfl
        exact if_does (wanted_by rfl rfl e39 rfl) (Does.vals (r_load (hF'.at 4 rfl) (ld_Rat (vs := [.bool b16, .slice ad16 n16 c16, .slice ae16 m16 d16]) (o9.below hb) rfl rfl)) ⟨rfl, Below.refl _ _, (fun h => absurd h (by decide))⟩)
      · intro a' w' hF' hb hd
        have e39 : a'.tmps.getD 39 undef = .bool false := hd _ 39 (Array.mem_of_getElem? (i := 3) rfl) rfl rfl
        have e43 : a'.tmps.getD 43 undef = .agg #[.bool b14, .slice ad14 n14 c14, .slice ae14 m14 d14] := hd _ 43 (Array.mem_of_getElem? (i := 0) rfl) rfl rfl
        have e44 : a'.tmps.getD 44 undef = .agg #[.bool b16, .slice ad16 n16 c16, .slice ae16 m16 d16] := hd _ 44 (Array.mem_of_getElem? (i := 1) rfl) rfl rfl
        refine if_does (wanted_by rfl rfl e39 rfl) (Does.calls (r_call Try.func64 en64.1 en64.2 (map2 e43 e44)) (rMul_any _ _ (((rawZ nega2 xa2 4 : Int) : Rat) / ((rawZ negb2 xb2 4 : Int) : Rat)) (((rawZ nega3 xa3 4 : Int) : Rat) / ((rawZ negb3 xb3 4 : Int) : Rat)) 4 _ (hh9.below hb) (hh11.below hb) ((own5_lim nega2 negb2 oka2 okb2 4 (by decide)).up _ (by omega)) ((own5_lim nega3 negb3 oka3 okb3 4 (by decide)).up _ (by omega)) (by omega)) ?_)
        rintro e w'' ⟨v', rfl, h', bb⟩
        exact ⟨_, rfl, h', bb, (fun h => absurd h (by decide))⟩
      · intro a' w' hF' hb hd
        have e39 : a'.tmps.getD 39 undef = .bool false := hd _ 39 (Array.mem_of_getElem? (i := 3) rfl) rfl rfl
        obtain ⟨v42_0, e42, h42_1⟩ : ∃ v, a'.tmps.getD 42 undef = v ∧ Rq w' v ((((rawZ nega1 xa1 4 : Int) : Rat) / ((rawZ negb1 xb1 4 : Int) : Rat)) * (((rawZ nega3 xa3 4 : Int) : Rat) / ((rawZ negb3 xb3 4 : Int) : Rat))) := ⟨_, rfl, hd _ 42 (Array.mem_of_getElem? (i := 0) rfl) rfl rfl⟩
        obtain ⟨v45_0, e45, h45_1⟩ : ∃ v, a'.tmps.getD 45 undef = v ∧ Rq w' v ((((rawZ nega2 xa2 4 : Int) : Rat) / ((rawZ negb2 xb2 4 : Int) : Rat)) * (((rawZ nega3 xa3 4 : Int) : Rat) / ((rawZ negb3 xb3 4 : Int) : Rat))) := ⟨_, rfl, hd _ 45 (Array.mem_of_getElem? (i := 1) rfl) rfl rfl⟩
        refine if_does (wanted_by rfl rfl e39 rfl) (Does.calls (r_call Try.func68 en68.1 en68.2 (map2 e42 e45)) (rCmp_any _ _ ((((rawZ nega1 xa1 4 : Int) : Rat) / ((rawZ negb1 xb1 4 : Int) : Rat)) * (((rawZ nega3 xa3 4 : Int) : Rat) / ((rawZ negb3 xb3 4 : Int) : Rat))) ((((rawZ nega2 xa2 4 : Int) : Rat) / ((rawZ negb2 xb2 4 : Int) : Rat)) * (((rawZ nega3 xa3 4 : Int) : Rat) / ((rawZ negb3 xb3 4 : Int) : Rat))) (4 + 4) _ h42_1 h45_1 ((rlim_mul (own5_lim nega1 negb1 oka1 okb1 4 (by decide)) (own5_lim nega3 negb3 oka3 okb3 4 (by decide))).up _ (by omega)) ((rlim_mul (own5_lim nega2 negb2 oka2 okb2 4 (by decide)) (own5_lim nega3 negb3 oka3 okb3 4 (by decide))).up _ (by omega)) (by omega)) ?_)
        rintro e w'' ⟨rfl, bb⟩
        exact ⟨_, rfl, rfl, bb, (fun h => absurd h (by decide))⟩
      · intro a' w' hF' hb hd
        have e39 : a'.tmps.getD 39 undef = .bool false := hd _ 39 (Array.mem_of_getElem? (i := 0) rfl) rfl rfl
        exact if_does (wanted_by rfl rfl e39 rfl) (Does.vals (r_move (hF'.at 0 rfl)) ⟨rfl, Below.refl _ _, (fun h => absurd h (by decide))⟩)
      · intro a' w' hF' hb hd
        have e39 : a'.tmps.getD 39 undef = .bool false := hd _ 39 (Array.mem_of_getElem? (i := 0) rfl) rfl rfl
        exact if_does (wanted_by rfl rfl e39 rfl) (Does.vals (r_load (hF'.at 4 rfl) (ld_Rat (vs := [.bool b16, .slice ad16 n16 c16, .slice ae16 m16 d16]) (o9.below hb) rfl rfl)) ⟨rfl, Below.refl _ _, (fun h => absurd h (by decide))⟩)
      · intro a' w' hF' hb hd
        have e39 : a'.tmps.getD 39 undef = .bool false := hd _ 39 (Array.mem_of_getElem? (i := 2) rfl) rfl rfl
        have e48 : a'.tmps.getD 48 undef = .agg #[.bool b16, .slice ad16 n16 c16, .slice ae16 m16 d16] := hd _ 48 (Array.mem_of_getElem? (i := 0) rfl) rfl rfl
        refine if_does (wanted_by rfl rfl e39 rfl) (Does.calls (r_call Try.func58 en58.1 en58.2 (map1 e48)) (rsgn_any _ (((rawZ nega3 xa3 4 : Int) : Rat) / ((rawZ negb3 xb3 4 : Int) : Rat)) _ (hh11.below hb)) ?_)
        rintro e w'' ⟨rfl, bb⟩
        exact ⟨_, rfl, rfl, bb, (fun h => absurd h (by decide))⟩
      · intro a' w' hF' hb hd
        have e39 : a'.tmps.getD 39 undef = .bool false := hd _ 39 (Array.mem_of_getElem? (i := 2) rfl) rfl rfl
        have e47 : a'.tmps.getD 47 undef = .int .i64 (qc (((rawZ nega1 xa1 4 : Int) : Rat) / ((rawZ negb1 xb1 4 : Int) : Rat)) (((rawZ nega2 xa2 4 : Int) : Rat) / ((rawZ negb2 xb2 4 : Int) : Rat))) := hd _ 47 (Array.mem_of_getElem? (i := 0) rfl) rfl rfl
        have e49 : a'.tmps.getD 49 undef = .int .i64 (sz (Rat.num (((rawZ nega3 xa3 4 : Int) : Rat) / ((rawZ negb3 xb3 4 : Int) : Rat)))) := hd _ 49 (Array.mem_of_getElem? (i := 1) rfl) rfl rfl
        exact if_does (wanted_by rfl rfl e39 rfl) (Does.vals (r_bin e47 e49 eg_scalar (ia_mul (small_mul (qc_bd _ _) (sz_bd _)).1 (small_mul (qc_bd _ _) (sz_bd _)).2)) ⟨rfl, Below.refl _ _, (fun h => absurd h (by decide))⟩)
      · intro a' w' hF' hb hd
        have e39 : a'.tmps.getD 39 undef = .bool false := hd _ 39 (Array.mem_of_getElem? (i := 2) rfl) rfl rfl
        have e46 : a'.tmps.getD 46 undef = .int .i64 (qc ((((rawZ nega1 xa1 4 : Int) : Rat) / ((rawZ negb1 xb1 4 : Int) : Rat)) * (((rawZ nega3 xa3 4 : Int) : Rat) / ((rawZ negb3 xb3 4 : Int) : Rat))) ((((rawZ nega2 xa2 4 : Int) : Rat) / ((rawZ negb2 xb2 4 : Int) : Rat)) * (((rawZ nega3 xa3 4 : Int) : Rat) / ((rawZ negb3 xb3 4 : Int) : Rat)))) := hd _ 46 (Array.mem_of_getElem? (i := 0) rfl) rfl rfl
        have e50 : a'.tmps.getD 50 undef = .int .i64 ((qc (((rawZ nega1 xa1 4 : Int) : Rat) / ((rawZ negb1 xb1 4 : Int) : Rat)) (((rawZ nega2 xa2 4 : Int) : Rat) / ((rawZ negb2 xb2 4 : Int) : Rat))) * (sz (Rat.num (((rawZ nega3 xa3 4 : Int) : Rat) / ((rawZ negb3 xb3 4 : Int) : Rat))))) := hd _ 50 (Array.mem_of_getElem? (i := 1) rfl) rfl rfl
        exact if_does (wanted_by rfl rfl e39 rfl) (Does.vals (r_bin e46 e50 eg_scalar (bi_int (ic_neq (c := false) (nex (qc_mul _ _ _))) (by simp))) ⟨rfl, Below.refl _ _, (fun h => absurd h (by decide))⟩)
      · intro a' w' hF' hb hd
        have e39 : a'.tmps.getD 39 undef = .bool false := hd _ 39 (Array.mem_of_getElem? (i := 0) rfl) rfl rfl
        have e51 : a'.tmps.getD 51 undef = .bool false := hd _ 51 (Array.mem_of_getElem? (i := 1) rfl) rfl rfl
        exact if_does (wanted_free rfl) (Does.vals (r_pick_f e39 e51) ⟨rfl, Below.refl _ _, (fun h => absurd h (by decide))⟩)
      · intro a' w' hF' hb hd
        have e52 : a'.tmps.getD 52 undef = .bool false := hd _ 52 (Array.mem_of_getElem? (i := 0) rfl) rfl rfl
        exact if_does (wanted_free rfl) (Does.vals (r_move e52) ⟨rfl, Below.refl _ _, (fun h => absurd h (by decide))⟩)
      · intro a' w' hF' hb hd
        have e53 : a'.tmps.getD 53 undef = .bool false := hd _ 53 (Array.mem_of_getElem? (i := 0) rfl) rfl rfl
        exact if_does (wanted_by rfl rfl e53 rfl) (Does.vals (r_load (hF'.at 6 rfl) (ld_Rat (vs := [.bool b12, .slice ad12 n12 c12, .slice ae12 m12 d12]) (o7.below hb) rfl rfl)) ⟨rfl, Below.refl _ _, (fun h => absurd h (by decide))⟩)
      · intro a' w' hF' hb hd
        have e53 : a'.tmps.getD 53 undef = .bool false := hd _ 53 (Array.mem_of_getElem? (i := 0) rfl) rfl rfl
        exact if_does (wanted_by rfl rfl e53 rfl) (Does.vals (r_load (hF'.at 5 rfl) (ld_Rat (vs := [.bool b14, .slice ad14 n14 c14, .slice ae14 m14 d14]) (o8.below hb) rfl rfl)) ⟨rfl, Below.refl _ _, (fun h => absurd h (by decide))⟩)
      · intro a' w' hF' hb hd
        have e53 : a'.tmps.getD 53 undef = .bool false := hd _ 53 (Array.mem_of_getElem? (i := 2) rfl) rfl rfl
        have e54 : a'.tmps.getD 54 undef = .agg #[.bool b12, .slice ad12 n12 c12, .slice ae12 m12 d12] := hd _ 54 (Array.mem_of_getElem? (i := 0) rfl) rfl rfl
        have e55 : a'.tmps.getD 55 undef = .agg #[.bool b14, .slice ad14 n14 c14, .slice ae14 m14 d14] := hd _ 55 (Array.mem_of_getElem? (i := 1) rfl) rfl rfl
        refine if_does (wanted_by rfl rfl e53 rfl) (Does.calls (r_call Try.func62 en62.1 en62.2 (map2 e54 e55)) (rSub_any _ _ (((rawZ nega1 xa1 4 : Int) : Rat) / ((rawZ negb1 xb1 4 : Int) : Rat)) (((rawZ nega2 xa2 4 : Int) : Rat) / ((rawZ negb2 xb2 4 : Int) : Rat)) 4 _ (hh7.below hb) (hh9.below hb) ((own5_lim nega1 negb1 oka1 okb1 4 (by decide)).up _ (by omega)) ((own5_lim nega2 negb2 oka2 okb2 4 (by decide)).up _ (by omega)) (by omega)) ?_)
        rintro e w'' ⟨v', rfl, h', bb⟩
        exact ⟨_, rfl, h', bb, (fun h => absurd h (by decide))⟩
      · intro a' w' hF' hb hd
        have e53 : a'.tmps.getD 53 undef = .bool false := hd _ 53 (Array.mem_of_getElem? (i := 2) rfl) rfl rfl
        obtain ⟨v56_0, e56, h56_1⟩ : ∃ v, a'.tmps.getD 56 undef = v ∧ Rq w' v ((((rawZ nega1 xa1 4 : Int) : Rat) / ((rawZ negb1 xb1 4 : Int) : Rat)) - (((rawZ nega2 xa2 4 : Int) : Rat) / ((rawZ negb2 xb2 4 : Int) : Rat))) := ⟨_, rfl, hd _ 56 (Array.mem_of_getElem? (i := 0) rfl) rfl rfl⟩
        refine if_does (wanted_by rfl rfl e53 rfl) (Does.calls (r_call Try.func58 en58.1 en58.2 (map1 e56)) (rsgn_any _ ((((rawZ nega1 xa1 4 : Int) : Rat) / ((rawZ negb1 xb1 4 : Int) : Rat)) - (((rawZ nega2 xa2 4 : Int) : Rat) / ((rawZ negb2 xb2 4 : Int) : Rat))) _ h56_1) ?_)
        rintro e w'' ⟨rfl, bb⟩
        exact ⟨_, rfl, rfl, bb, (fun h => absurd h (by decide))⟩
      · intro a' w' hF' hb hd
        have e53 : a'.tmps.getD 53 undef = .bool false := hd _ 53 (Array.mem_of_getElem? (i := 0) rfl) rfl rfl
        exact if_does (wanted_by rfl rfl e53 rfl) (Does.vals (r_move (hF'.at 0 rfl)) ⟨rfl, Below.refl _ _, (fun h => absurd h (by decide))⟩)
      · intro a' w' hF' hb hd
        have e53 : a'.tmps.getD 53 undef = .bool false := hd _ 53 (Array.mem_of_getElem? (i := 2) rfl) rfl rfl
        have e57 : a'.tmps.getD 57 undef = .int .i64 (sz (Rat.num ((((rawZ nega1 xa1 4 : Int) : Rat) / ((rawZ negb1 xb1 4 : Int) : Rat)) - (((rawZ nega2 xa2 4 : Int) : Rat) / ((rawZ negb2 xb2 4 : Int) : Rat))))) := hd _ 57 (Array.mem_of_getElem? (i := 0) rfl) rfl rfl
        have e58 : a'.tmps.getD 58 undef = .int .i64 (qc (((rawZ nega1 xa1 4 : Int) : Rat) / ((rawZ negb1 xb1 4 : Int) : Rat)) (((rawZ nega2 xa2 4 : Int) : Rat) / ((rawZ negb2 xb2 4 : Int) : Rat))) := hd _ 58 (Array.mem_of_getElem? (i := 1) rfl) rfl rfl
        exact if_does (wanted_by rfl rfl e53 rfl) (Does.vals (r_bin e57 e58 eg_scalar (bi_int (ic_neq (c := false) (nex (qc_sub _ _))) (by simp))) ⟨rfl, Below.refl _ _, (fun h => absurd h (by decide))⟩)
      · intro a' w' hF' hb hd
        have e53 : a'.tmps.getD 53 undef = .bool false := hd _ 53 (Array.mem_of_getElem? (i := 0) rfl) rfl rfl
        have e59 : a'.tmps.getD 59 undef = .bool false := hd _ 59 (Array.mem_of_getElem? (i := 1) rfl) rfl rfl
        exact if_does (wanted_free rfl) (Does.vals (r_pick_f e53 e59) ⟨rfl, Below.refl _ _, (fun h => absurd h (by decide))⟩)
      intro a w22 hF bb hall hne
      have e60 : a.tmps.getD 60 undef = .bool false := hall 38 60 rfl
      clear hall hne
      replace hf13 := hf13.below bb
      replace hd12 := hd12.below bb
      replace hh7 := hh7.below bb
      replace hn12 := hn12.below bb
      replace hf15 := hf15.below bb
      replace hd14 := hd14.below bb
      replace hh9 := hh9.below bb
      replace hn14 := hn14.below bb
      replace hf17 := hf17.below bb
      replace hd16 := hd16.below bb
      replace hh11 := hh11.below bb
      replace hn16 := hn16.below bb
      replace o7 := o7.below bb
      replace o8 := o8.below bb
      replace o9 := o9.below bb
      replace bel := below_to bel bb
      clear bb
      replace hF := hF.add e60
      clear e60
      refine E.nil ?_
      refine wp_cond_false (hF.at 0 rfl) ?_
      refine wp_skip ?_
      refine E.norm ?_
      refine wp_seq ?_
      refine E.seq ?_
      refine E.opv hF (r_move (hF.at 1 rfl)) rfl rfl rfl rfl fun a hF => ?_
      refine E.opv hF (r_bin (hF.at 0 rfl) ev_c eg_scalar (bi_int (ic_leq (c := true) (dec_t hc1)) (by simp))) rfl rfl rfl rfl fun a hF => ?_
      refine E.opv hF (r_move (hF.at 0 rfl)) rfl rfl rfl rfl fun a hF => ?_
      refine E.opvg hF (r_load (hF.at 9 rfl) (ld_Rat (vs := [.bool b14, .slice ad14 n14 c14, .slice ae14 m14 d14]) o8 rfl rfl)) (wanted_by rfl rfl (hF.at 0 rfl) rfl) rfl rfl rfl fun a hF => ?_
      refine E.opvg hF (r_load (hF.at 9 rfl) (ld_Rat (vs := [.bool b16, .slice ad16 n16 c16, .slice ae16 m16 d16]) o9 rfl rfl)) (wanted_by rfl rfl (hF.at 1 rfl) rfl) rfl rfl rfl fun a hF => ?_
      refine E.callg hF (r_call Try.func68 en68.1 en68.2 (map2 (hF.at 1 rfl) (hF.at 0 rfl))) (rCmp_any _ _ (((rawZ nega2 xa2 4 : Int) : Rat) / ((rawZ negb2 xb2 4 : Int) : Rat)) (((rawZ nega3 xa3 4 : Int) : Rat) / ((rawZ negb3 xb3 4 : Int) : Rat)) 4 _ hh9 hh11 ((own5_lim nega2 negb2 oka2 okb2 4 (by decide)).up _ (by omega)) ((own5_lim nega3 negb3 oka3 okb3 4 (by decide)).up _ (by omega)) (by omega)) (wanted_by rfl rfl (hF.at 2 rfl) rfl) rfl rfl rfl ?_
      rintro e w23 ⟨rfl, bb⟩
      refine ⟨_, rfl, ?_⟩
      intro a hF
      replace hf13 := hf13.below bb
      replace hd12 := hd12.below bb
      replace hh7 := hh7.below bb
      replace hn12 := hn12.below bb
      replace hf17 := hf17.below bb
      replace hd16 := hd16.below bb
      replace hh11 := hh11.below bb
      replace hn16 := hn16.below bb
      replace o7 := o7.below bb
      replace o9 := o9.below bb
      replace bel := below_to bel bb
      clear bb
      refine E.opvg hF (r_bin (hF.at 0 rfl) ev_c eg_scalar (bi_int (ic_leq (c := true) (dec_t hc2)) (by simp))) (wanted_by rfl rfl (hF.at 3 rfl) rfl) rfl rfl rfl fun a hF => ?_
      refine E.opv hF (r_pick_t (hF.at 4 rfl) (hF.at 0 rfl)) rfl rfl rfl rfl fun a hF => ?_
      refine E.opv hF (r_un (hF.at 0 rfl) (bn_not _ false rfl)) rfl rfl rfl rfl fun a hF => ?_
      refine E.opv hF (r_move (hF.at 0 rfl)) rfl rfl rfl rfl fun a hF => ?_
      refine E.opvg hF (r_load (hF.at 17 rfl) (ld_Rat (vs := [.bool b12, .slice ad12 n12 c12, .slice ae12 m12 d12]) o7 rfl rfl)) (wanted_by rfl rfl (hF.at 0 rfl) rfl) rfl rfl rfl fun a hF => ?_
      refine E.opvg hF (r_load (hF.at 16 rfl) (ld_Rat (vs := [.bool b16, .slice ad16 n16 c16, .slice ae16 m16 d16]) o9 rfl rfl)) (wanted_by rfl rfl (hF.at 1 rfl) rfl) rfl rfl rfl fun a hF => ?_
      refine E.callg hF (r_call Try.func68 en68.1 en68.2 (map2 (hF.at 1 rfl) (hF.at 0 rfl))) (rCmp_any _ _ (((rawZ nega1 xa1 4 : Int) : Rat) / ((rawZ negb1 xb1 4 : Int) : Rat)) (((rawZ nega3 xa3 4 : Int) : Rat) / ((rawZ negb3 xb3 4 : Int) : Rat)) 4 _ hh7 hh11 ((own5_lim nega1 negb1 oka1 okb1 4 (by decide)).up _ (by omega)) ((own5_lim nega3 negb3 oka3 okb3 4 (by decide)).up _ (by omega)) (by omega)) (wanted_by rfl rfl (hF.at 2 rfl) rfl) rfl rfl rfl ?_
      rintro e w24 ⟨rfl, bb⟩
      refine ⟨_, rfl, ?_⟩
      intro a hF
      replace bel := below_to bel bb
      clear bb
      refine E.opvg hF (r_bin (hF.at 0 rfl) ev_c eg_scalar (bi_int (ic_leq (c := true) (dec_t (qc_trans hc1 hc2))) (by simp))) (wanted_by rfl rfl (hF.at 3 rfl) rfl) rfl rfl rfl fun a hF => ?_
      refine E.opv hF (r_pick_f (hF.at 4 rfl) (hF.at 0 rfl)) rfl rfl rfl rfl fun a hF => ?_
      refine E.opset (L' := [(6, .bool true), (75, .bool true), (74, .bool true), (73, .int .i64 (qc (((rawZ nega1 xa1 4 : Int) : Rat) / ((rawZ negb1 xb1 4 : Int) : Rat)) (((rawZ nega3 xa3 4 : Int) : Rat) / ((rawZ negb3 xb3 4 : Int) : Rat)))), (72, .agg #[.bool b16, .slice ad16 n16 c16, .slice ae16 m16 d16]), (71, .agg #[.bool b12, .slice ad12 n12 c12, .slice ae12 m12 d12]), (70, .bool false), (69, .bool false), (68, .bool true), (67, .bool true), (66, .int .i64 (qc (((rawZ nega2 xa2 4 : Int) : Rat) / ((rawZ negb2 xb2 4 : Int) : Rat)) (((rawZ nega3 xa3 4 : Int) : Rat) / ((rawZ negb3 xb3 4 : Int) : Rat)))), (65, .agg #[.bool b16, .slice ad16 n16 c16, .slice ae16 m16 d16]), (64, .agg #[.bool b14, .slice ad14 n14 c14, .slice ae14 m14 d14]), (63, .bool true), (62, .bool true), (61, .int .i64 (qc (((rawZ nega1 xa1 4 : Int) : Rat) / ((rawZ negb1 xb1 4 : Int) : Rat)) (((rawZ nega2 xa2 4 : Int) : Rat) / ((rawZ negb2 xb2 4 : Int) : Rat)))), (60, .bool false), (10, .int .i64 (qc (((rawZ nega1 xa1 4 : Int) : Rat) / ((rawZ negb1 xb1 4 : Int) : Rat)) (((rawZ nega2 xa2 4 : Int) : Rat) / ((rawZ negb2 xb2 4 : Int) : Rat)))), (21, .int .i64 (qc (((rawZ nega1 xa1 4 : Int) : Rat) / ((rawZ negb1 xb1 4 : Int) : Rat)) (((rawZ nega2 xa2 4 : Int) : Rat) / ((rawZ negb2 xb2 4 : Int) : Rat)))), (20, .agg #[.bool b14, .slice ad14 n14 c14, .slice ae14 m14 d14]), (19, .agg #[.bool b12, .slice ad12 n12 c12, .slice ae12 m12 d12]), (9, .pointer (some ⟨g9, 0, none⟩)), (8, .pointer (some ⟨g8, 0, none⟩)), (7, .pointer (some ⟨g7, 0, none⟩)), (18, .agg #[.bool b16, .slice ad16 n16 c16, .slice ae16 m16 d16]), (16, .agg #[.bool b14, .slice ad14 n14 c14, .slice ae14 m14 d14]), (14, .agg #[.bool b12, .slice ad12 n12 c12, .slice ae12 m12 d12]), (12, .bool false), (11, .bool true), (5, .pointer (some ⟨g5, 0, none⟩)), (4, .pointer (some ⟨g4, 0, none⟩)), (3, .pointer (some ⟨g3, 0, none⟩)), (0, .agg #[.bool nega1, .slice aa1 na1 ca1, .bool negb1, .slice ab1 nb1 cb1]), (1, .agg #[.bool nega2, .slice aa2 na2 ca2, .bool negb2, .slice ab2 nb2 cb2]), (2, .agg #[.bool nega3, .slice aa3 na3 ca3, .bool negb3, .slice ab3 nb3 cb3])]) hF (r_assign (hF.at 0 rfl)) rfl rfl rfl rfl fun a hF => ?_
      refine E.nil ?_
      refine wp_ret ?_
      refine bodyPost_ret (res_tmp Try.results13 (hF.at 0 rfl)) hF.dfr ?_
      exact ⟨rfl, bel⟩
    · have bel : Below w.heap.size w w := Below.refl _ _
      refine E.enter (nt := 76) (L := [(0, .agg #[.bool nega1, .slice aa1 na1 ca1, .bool negb1, .slice ab1 nb1 cb1]), (1, .agg #[.bool nega2, .slice aa2 na2 ca2, .bool negb2, .slice ab2 nb2 cb2]), (2, .agg #[.bool nega3, .slice aa3 na3 ca3, .bool negb3, .slice ab3 nb3 cb3])]) Try.func13 rfl rfl rfl (args_cons (i := 0) rfl (args_cons (i := 1) rfl (args_cons (i := 2) rfl args_nil))) ?_
      intro a hF
      refine wp_seq ?_
      refine E.seq ?_
      obtain ⟨g3, w1, ge3, hr, bb, o3⟩ := own_box (P := Try.prog) (w := w) (cs := [.bool nega1, .slice aa1 na1 ca1, .bool negb1, .slice ab1 nb1 cb1]) (v := .agg #[.bool nega1, .slice aa1 na1 ca1, .bool negb1, .slice ab1 nb1 cb1]) 74 rfl (niB (niS (niB (niS ni0))))
      replace ge3 : w.heap.size ≤ g3 := by rw [← ge3]; exact bel.size
      refine E.opv hF (r_box (hF.at 0 rfl) hr) rfl rfl rfl rfl fun a hF => ?_
      clear hr
      replace ia2 := ia2.below bb
      replace ib2 := ib2.below bb
      replace ia3 := ia3.below bb
      replace ib3 := ib3.below bb
      replace ia1 := ia1.below bb
      replace ib1 := ib1.below bb
      replace bel := below_to bel bb
      clear bb
      obtain ⟨g4, w2, ge4, hr, bb, o4⟩ := own_box (P := Try.prog) (w := w1) (cs := [.bool nega2, .slice aa2 na2 ca2, .bool negb2, .slice ab2 nb2 cb2]) (v := .agg #[.bool nega2, .slice aa2 na2 ca2, .bool negb2, .slice ab2 nb2 cb2]) 74 rfl (niB (niS (niB (niS ni0))))
      have ne3_4 : g3 ≠ g4 := by rw [← ge4]; exact o3.ne_new
      replace ge4 : w.heap.size ≤ g4 := by rw [← ge4]; exact bel.size
      refine E.opv hF (r_box (hF.at 2 rfl) hr) rfl rfl rfl rfl fun a hF => ?_
      clear hr
      replace ia3 := ia3.below bb
      replace ib3 := ib3.below bb
      replace ia1 := ia1.below bb
      replace ib1 := ib1.below bb
      replace ia2 := ia2.below bb
      replace ib2 := ib2.below bb
      replace o3 := o3.below bb
      replace bel := below_to bel bb
      clear bb
      obtain ⟨g5, w3, ge5, hr, bb, o5⟩ := own_box (P := Try.prog) (w := w2) (cs := [.bool nega3, .slice aa3 na3 ca3, .bool negb3, .slice ab3 nb3 cb3]) (v := .agg #[.bool nega3, .slice aa3 na3 ca3, .bool negb3, .slice ab3 nb3 cb3]) 74 rfl (niB (niS (niB (niS ni0))))
      have ne3_5 : g3 ≠ g5 := by rw [← ge5]; exact o3.ne_new
      have ne4_5 : g4 ≠ g5 := by rw [← ge5]; exact o4.ne_new
      replace ge5 : w.heap.size ≤ g5 := by rw [← ge5]; exact bel.size
      refine E.opv hF (r_box (hF.at 4 rfl) hr) rfl rfl rfl rfl fun a hF => ?_
      clear hr
      replace ia1 := ia1.below bb
      replace ib1 := ib1.below bb
      replace ia2 := ia2.below bb
      replace ib2 := ib2.below bb
      replace ia3 := ia3.below bb
      replace ib3 := ib3.below bb
      replace o3 := o3.below bb
      replace o4 := o4.below bb
      replace bel := below_to bel bb
      clear bb
      refine E.opv hF (r_assign ev_c) rfl rfl rfl rfl fun a hF => ?_
      refine E.nil ?_
      refine wp_seq ?_
      refine wp_seq ?_
      refine E.seq ?_
      refine E.call hF (r_call Try.func45 en45.1 en45.2 map0) (awake5_any _) rfl rfl rfl rfl ?_
      rintro e w4 ⟨rfl, bb⟩
      refine ⟨_, rfl, ?_⟩
      intro a hF
      replace ia1 := ia1.below bb
      replace ib1 := ib1.below bb
      replace ia2 := ia2.below bb
      replace ib2 := ib2.below bb
      replace ia3 := ia3.below bb
      replace ib3 := ib3.below bb
      replace o3 := o3.below bb
      replace o4 := o4.below bb
      replace o5 := o5.below bb
      replace bel := below_to bel bb
      clear bb
      refine E.opv hF (r_un (hF.at 0 rfl) (bn_not _ false rfl)) rfl rfl rfl rfl fun a hF => ?_
      refine E.nil ?_
      refine wp_cond_false (hF.at 0 rfl) ?_
      refine wp_skip ?_
      refine E.norm ?_
      refine wp_seq ?_
      refine E.drawn 9 mixed hF [13, 14, 15, 16, 17, 18, 7, 8, 9] [(fun _ v => v = .agg #[.bool nega1, .slice aa1 na1 ca1, .bool negb1, .slice ab1 nb1 cb1]), (fun w v => Rq w v (((rawZ nega1 xa1 4 : Int) : Rat) / ((rawZ negb1 xb1 4 : Int) : Rat))), (fun _ v => v = .agg #[.bool nega2, .slice aa2 na2 ca2, .bool negb2, .slice ab2 nb2 cb2]), (fun w v => Rq w v (((rawZ nega2 xa2 4 : Int) : Rat) / ((rawZ negb2 xb2 4 : Int) : Rat))), (fun _ v => v = .agg #[.bool nega3, .slice aa3 na3 ca3, .bool negb3, .slice ab3 nb3 cb3]), (fun w v => Rq w v (((rawZ nega3 xa3 4 : Int) : Rat) / ((rawZ negb3 xb3 4 : Int) : Rat))), (fun w v => ∃ g, v = .pointer (some ⟨g, 0, none⟩) ∧ w4.heap.size ≤ g ∧ Own w g [.bool false, .slice none 0 0, .slice none 0 0]), (fun w v => ∃ g, v = .pointer (some ⟨g, 0, none⟩) ∧ w4.heap.size ≤ g ∧ Own w g [.bool false, .slice none 0 0, .slice none 0 0]), (fun w v => ∃ g, v = .pointer (some ⟨g, 0, none⟩) ∧ w4.heap.size ≤ g ∧ Own w g [.bool false, .slice none 0 0, .slice none 0 0])] [6, 7, 8] (by decide +kernel) (by decide +kernel) rfl rfl rfl ⟨(Mb.eq _), (fun _ _ _ h hb => h.below hb), (Mb.eq _), (fun _ _ _ h hb => h.below hb), (Mb.eq _), (fun _ _ _ h hb => h.below hb), (fun _ _ _ ⟨g, e, l, o⟩ hb => ⟨g, e, l, o.below hb⟩), (fun _ _ _ ⟨g, e, l, o⟩ hb => ⟨g, e, l, o.below hb⟩), (fun _ _ _ ⟨g, e, l, o⟩ hb => ⟨g, e, l, o.below hb⟩), trivial⟩ ⟨fun _ _ ⟨g, e, _, o⟩ => ⟨g, e, o.lt⟩, ⟨fun _ _ ⟨g, e, _, o⟩ => ⟨g, e, o.lt⟩, ⟨fun _ _ ⟨g, e, _, o⟩ => ⟨g, e, o.lt⟩, trivial⟩⟩⟩ ⟨?_, ?_, ?_, ?_, ?_, ?_, ?_, ?_, ?_, trivial⟩ ?_
      · intro a' w' hF' hb hd
        exact if_does (wanted_free rfl) (Does.vals (r_load (hF'.at 5 rfl) (ld_Raw5 (vs := [.bool nega1, .slice aa1 na1 ca1, .bool negb1, .slice ab1 nb1 cb1]) (o3.below hb) rfl rfl)) ⟨rfl, Below.refl _ _, (fun h => absurd h (by decide))⟩)
      · intro a' w' hF' hb hd
        have e13 : a'.tmps.getD 13 undef = .agg #[.bool nega1, .slice aa1 na1 ca1, .bool negb1, .slice ab1 nb1 cb1] := hd _ 13 (Array.mem_of_getElem? (i := 0) rfl) rfl rfl
        refine if_does (wanted_free rfl) (Does.calls (r_call Try.func46 en46.1 en46.2 (map2 e13 ev_c)) (Own5_any nega1 aa1 na1 ca1 xa1 negb1 ab1 nb1 cb1 xb1 4 _ (ia1.below hb) (ib1.below hb) (by omega)) ?_)
        rintro e w'' ⟨v', rfl, h', bb⟩
        exact ⟨_, rfl, h', bb, (fun h => absurd h (by decide))⟩
      · intro a' w' hF' hb hd
        exact if_does (wanted_free rfl) (Does.vals (r_load (hF'.at 4 rfl) (ld_Raw5 (vs := [.bool nega2, .slice aa2 na2 ca2, .bool negb2, .slice ab2 nb2 cb2]) (o4.below hb) rfl rfl)) ⟨rfl, Below.refl _ _, (fun h => absurd h (by decide))⟩)
      · intro a' w' hF' hb hd
        have e15 : a'.tmps.getD 15 undef = .agg #[.bool nega2, .slice aa2 na2 ca2, .bool negb2, .slice ab2 nb2 cb2] := hd _ 15 (Array.mem_of_getElem? (i := 0) rfl) rfl rfl
        refine if_does (wanted_free rfl) (Does.calls (r_call Try.func46 en46.1 en46.2 (map2 e15 ev_c)) (Own5_any nega2 aa2 na2 ca2 xa2 negb2 ab2 nb2 cb2 xb2 4 _ (ia2.below hb) (ib2.below hb) (by omega)) ?_)
        rintro e w'' ⟨v', rfl, h', bb⟩
        exact ⟨_, rfl, h', bb, (fun h => absurd h (by decide))⟩
      · intro a' w' hF' hb hd
        exact if_does (wanted_free rfl) (Does.vals (r_load (hF'.at 3 rfl) (ld_Raw5 (vs := [.bool nega3, .slice aa3 na3 ca3, .bool negb3, .slice ab3 nb3 cb3]) (o5.below hb) rfl rfl)) ⟨rfl, Below.refl _ _, (fun h => absurd h (by decide))⟩)
      · intro a' w' hF' hb hd
        have e17 : a'.tmps.getD 17 undef = .agg #[.bool nega3, .slice aa3 na3 ca3, .bool negb3, .slice ab3 nb3 cb3] := hd _ 17 (Array.mem_of_getElem? (i := 0) rfl) rfl rfl
        refine if_does (wanted_free rfl) (Does.calls (r_call Try.func46 en46.1 en46.2 (map2 e17 ev_c)) (Own5_any nega3 aa3 na3 ca3 xa3 negb3 ab3 nb3 cb3 xb3 4 _ (ia3.below hb) (ib3.below hb) (by omega)) ?_)
        rintro e w'' ⟨v', rfl, h', bb⟩
        exact ⟨_, rfl, h', bb, (fun h => absurd h (by decide))⟩
      · intro a' w' hF' hb hd
        obtain ⟨g, w2, ge, hr, bb, on⟩ := own_alloc (P := Try.prog) (w := w') (cs := [.bool false, .slice none 0 0, .slice none 0 0]) 76 ze_Rat rfl (niB (niS (niS ni0)))
        subst ge
        exact if_does (wanted_free rfl) (Does.vals (r_alloc hr) ⟨⟨_, rfl, hb.size, on⟩, bb, fun _ => rfl⟩)
      · intro a' w' hF' hb hd
        obtain ⟨g, w2, ge, hr, bb, on⟩ := own_alloc (P := Try.prog) (w := w') (cs := [.bool false, .slice none 0 0, .slice none 0 0]) 76 ze_Rat rfl (niB (niS (niS ni0)))
        subst ge
        exact if_does (wanted_free rfl) (Does.vals (r_alloc hr) ⟨⟨_, rfl, hb.size, on⟩, bb, fun _ => rfl⟩)
      · intro a' w' hF' hb hd
        obtain ⟨g, w2, ge, hr, bb, on⟩ := own_alloc (P := Try.prog) (w := w') (cs := [.bool false, .slice none 0 0, .slice none 0 0]) 76 ze_Rat rfl (niB (niS (niS ni0)))
        subst ge
        exact if_does (wanted_free rfl) (Does.vals (r_alloc hr) ⟨⟨_, rfl, hb.size, on⟩, bb, fun _ => rfl⟩)
      intro a w5 hF bb hall hne
      obtain ⟨vv6, e14, hh7⟩ : ∃ v, a.tmps.getD 14 undef = v ∧ Rq w5 v (((rawZ nega1 xa1 4 : Int) : Rat) / ((rawZ negb1 xb1 4 : Int) : Rat)) := ⟨_, rfl, hall 1 14 rfl⟩
      obtain ⟨vv8, e16, hh9⟩ : ∃ v, a.tmps.getD 16 undef = v ∧ Rq w5 v (((rawZ nega2 xa2 4 : Int) : Rat) / ((rawZ negb2 xb2 4 : Int) : Rat)) := ⟨_, rfl, hall 3 16 rfl⟩
      obtain ⟨vv10, e18, hh11⟩ : ∃ v, a.tmps.getD 18 undef = v ∧ Rq w5 v (((rawZ nega3 xa3 4 : Int) : Rat) / ((rawZ negb3 xb3 4 : Int) : Rat)) := ⟨_, rfl, hall 5 18 rfl⟩
      obtain ⟨g7, e7, ge7, o7⟩ : ∃ g, a.tmps.getD 7 undef = .pointer (some ⟨g, 0, none⟩) ∧ w4.heap.size ≤ g ∧ Own w5 g [.bool false, .slice none 0 0, .slice none 0 0] := hall 6 7 rfl
      obtain ⟨g8, e8, ge8, o8⟩ : ∃ g, a.tmps.getD 8 undef = .pointer (some ⟨g, 0, none⟩) ∧ w4.heap.size ≤ g ∧ Own w5 g [.bool false, .slice none 0 0, .slice none 0 0] := hall 7 8 rfl
      have ne7_8 : g7 ≠ g8 := by intro e; exact hne 6 7 7 8 rfl rfl (by decide) rfl rfl (by rw [e7, e8, e])
      obtain ⟨g9, e9, ge9, o9⟩ : ∃ g, a.tmps.getD 9 undef = .pointer (some ⟨g, 0, none⟩) ∧ w4.heap.size ≤ g ∧ Own w5 g [.bool false, .slice none 0 0, .slice none 0 0] := hall 8 9 rfl
      have ne7_9 : g7 ≠ g9 := by intro e; exact hne 6 8 7 9 rfl rfl (by decide) rfl rfl (by rw [e7, e9, e])
      have ne8_9 : g8 ≠ g9 := by intro e; exact hne 7 8 8 9 rfl rfl (by decide) rfl rfl (by rw [e8, e9, e])
      replace ge7 : w.heap.size ≤ g7 := Nat.le_trans bel.size ge7
      replace ge8 : w.heap.size ≤ g8 := Nat.le_trans bel.size ge8
      replace ge9 : w.heap.size ≤ g9 := Nat.le_trans bel.size ge9
      clear hall hne
      replace bel := below_to bel bb
      clear bb
      obtain ⟨b12, ad12, n12, c12, ae12, m12, d12, rfl, hn12, hd12⟩ := Rq.shape hh7
      have hf13 := Wc.abs hn12
      replace hF := hF.add e14
      clear e14
      obtain ⟨b14, ad14, n14, c14, ae14, m14, d14, rfl, hn14, hd14⟩ := Rq.shape hh9
      have hf15 := Wc.abs hn14
      replace hF := hF.add e16
      clear e16
      obtain ⟨b16, ad16, n16, c16, ae16, m16, d16, rfl, hn16, hd16⟩ := Rq.shape hh11
      have hf17 := Wc.abs hn16
      replace hF := hF.add e18
      clear e18
      replace hF := hF.add e7
      clear e7
      replace hF := hF.add e8
      clear e8
      replace hF := hF.add e9
      clear e9
      obtain ⟨w18, hr, tu, on⟩ := st_Rat (vs := [.bool b12, .slice ad12 n12 c12, .slice ae12 m12 d12]) o7 rfl rfl (ocB (ocS (ocS oc0))) (niB (niS (niS ni0))) (o := 0) rfl
      have kp := tu.keep o7
      refine E.st hF (r_store (hF.at 2 rfl) (hF.at 5 rfl) (hr _ rfl)) rfl rfl fun a hF => ?_
      clear hr
      replace hh11 := hh11.keep kp
      replace hn16 := hn16.keep kp
      replace hf17 := hf17.keep kp
      replace hd16 := hd16.keep kp
      replace hh9 := hh9.keep kp
      replace hn14 := hn14.keep kp
      replace hf15 := hf15.keep kp
      replace hd14 := hd14.keep kp
      replace hh7 := hh7.keep kp
      replace hn12 := hn12.keep kp
      replace hf13 := hf13.keep kp
      replace hd12 := hd12.keep kp
      replace o8 := tu.own o8 (Ne.symm ne7_8)
      replace o9 := tu.own o9 (Ne.symm ne7_9)
      replace bel := tu.below bel ge7
      clear tu kp
      replace o7 := on
      clear on
      obtain ⟨w19, hr, tu, on⟩ := st_Rat (vs := [.bool b14, .slice ad14 n14 c14, .slice ae14 m14 d14]) o8 rfl rfl (ocB (ocS (ocS oc0))) (niB (niS (niS ni0))) (o := 0) rfl
      have kp := tu.keep o8
      refine E.st hF (r_store (hF.at 1 rfl) (hF.at 4 rfl) (hr _ rfl)) rfl rfl fun a hF => ?_
      clear hr
      replace hh11 := hh11.keep kp
      replace hn16 := hn16.keep kp
      replace hf17 := hf17.keep kp
      replace hd16 := hd16.keep kp
      replace hf13 := hf13.keep kp
      replace hd12 := hd12.keep kp
      replace hh7 := hh7.keep kp
      replace hn12 := hn12.keep kp
      replace hh9 := hh9.keep kp
      replace hn14 := hn14.keep kp
      replace hf15 := hf15.keep kp
      replace hd14 := hd14.keep kp
      replace o7 := tu.own o7 ne7_8
      replace o9 := tu.own o9 (Ne.symm ne8_9)
      replace bel := tu.below bel ge8
      clear tu kp
      replace o8 := on
      clear on
      obtain ⟨w20, hr, tu, on⟩ := st_Rat (vs := [.bool b16, .slice ad16 n16 c16, .slice ae16 m16 d16]) o9 rfl rfl (ocB (ocS (ocS oc0))) (niB (niS (niS ni0))) (o := 0) rfl
      have kp := tu.keep o9
      refine E.st hF (r_store (hF.at 0 rfl) (hF.at 3 rfl) (hr _ rfl)) rfl rfl fun a hF => ?_
      clear hr
      replace hf13 := hf13.keep kp
      replace hd12 := hd12.keep kp
      replace hh7 := hh7.keep kp
      replace hn12 := hn12.keep kp
      replace hf15 := hf15.keep kp
      replace hd14 := hd14.keep kp
      replace hh9 := hh9.keep kp
      replace hn14 := hn14.keep kp
      replace hh11 := hh11.keep kp
      replace hn16 := hn16.keep kp
      replace hf17 := hf17.keep kp
      replace hd16 := hd16.keep kp
      replace o7 := tu.own o7 ne7_9
      replace o8 := tu.own o8 ne8_9
      replace bel := tu.below bel ge9
      clear tu kp
      replace o9 := on
      clear on
      refine E.nil ?_
      refine wp_seq ?_
      refine E.seq ?_
      refine E.opv hF (r_load (hF.at 2 rfl) (ld_Rat (vs := [.bool b12, .slice ad12 n12 c12, .slice ae12 m12 d12]) o7 rfl rfl)) rfl rfl rfl rfl fun a hF => ?_
      refine E.opv hF (r_load (hF.at 2 rfl) (ld_Rat (vs := [.bool b14, .slice ad14 n14 c14, .slice ae14 m14 d14]) o8 rfl rfl)) rfl rfl rfl rfl fun a hF => ?_
      refine E.call hF (r_call Try.func68 en68.1 en68.2 (map2 (hF.at 1 rfl) (hF.at 0 rfl))) (rCmp_any _ _ (((rawZ nega1 xa1 4 : Int) : Rat) / ((rawZ negb1 xb1 4 : Int) : Rat)) (((rawZ nega2 xa2 4 : Int) : Rat) / ((rawZ negb2 xb2 4 : Int) : Rat)) 4 _ hh7 hh9 ((own5_lim nega1 negb1 oka1 okb1 4 (by decide)).up _ (by omega)) ((own5_lim nega2 negb2 oka2 okb2 4 (by decide)).up _ (by omega)) (by omega)) rfl rfl rfl rfl ?_
      rintro e w21 ⟨rfl, bb⟩
      refine ⟨_, rfl, ?_⟩
      intro a hF
      replace hf13 := hf13.below bb
      replace hd12 := hd12.below bb
      replace hh7 := hh7.below bb
      replace hn12 := hn12.below bb
      replace hf15 := hf15.below bb
      replace hd14 := hd14.below bb
      replace hh9 := hh9.below bb
      replace hn14 := hn14.below bb
      replace hf17 := hf17.below bb
      replace hd16 := hd16.below bb
      replace hh11 := hh11.below bb
      replace hn16 := hn16.below bb
      replace o7 := o7.below bb
      replace o8 := o8.below bb
      replace o9 := o9.below bb
      replace bel := below_to bel bb
      clear bb
      refine E.opv hF (r_assign (hF.at 0 rfl)) rfl rfl rfl rfl fun a hF => ?_
      refine E.nil ?_
      refine wp_seq ?_
      refine wp_seq ?_
      refine E.drawn 39 mixed hF [22, 23, 24, 25, 26, 27, 28, 29, 30, 31, 32, 33, 34, 35, 36, 37, 38, 39, 40, 41, 42, 43, 44, 45, 46, 47, 48, 49, 50, 51, 52, 53, 54, 55, 56, 57, 58, 59, 60] [(fun _ v => v = .agg #[.bool b14, .slice ad14 n14 c14, .slice ae14 m14 d14]), (fun _ v => v = .agg #[.bool b12, .slice ad12 n12 c12, .slice ae12 m12 d12]), (fun _ v => v = .int .i64 (qc (((rawZ nega2 xa2 4 : Int) : Rat) / ((rawZ negb2 xb2 4 : Int) : Rat)) (((rawZ nega1 xa1 4 : Int) : Rat) / ((rawZ negb1 xb1 4 : Int) : Rat)))), (fun _ v => v = .int .i64 (qc (((rawZ nega1 xa1 4 : Int) : Rat) / ((rawZ negb1 xb1 4 : Int) : Rat)) (((rawZ nega2 xa2 4 : Int) : Rat) / ((rawZ negb2 xb2 4 : Int) : Rat)))), (fun _ v => v = .int .i64 (-(qc (((rawZ nega1 xa1 4 : Int) : Rat) / ((rawZ negb1 xb1 4 : Int) : Rat)) (((rawZ nega2 xa2 4 : Int) : Rat) / ((rawZ negb2 xb2 4 : Int) : Rat))))), (fun _ v => v = .bool false), (fun _ v => v = .bool false), (fun _ v => v = .agg #[.bool b12, .slice ad12 n12 c12, .slice ae12 m12 d12]), (fun _ v => v = .agg #[.bool b16, .slice ad16 n16 c16, .slice ae16 m16 d16]), (fun w v => Rq w v ((((rawZ nega1 xa1 4 : Int) : Rat) / ((rawZ negb1 xb1 4 : Int) : Rat)) + (((rawZ nega3 xa3 4 : Int) : Rat) / ((rawZ negb3 xb3 4 : Int) : Rat)))), (fun _ v => v = .agg #[.bool b14, .slice ad14 n14 c14, .slice ae14 m14 d14]), (fun _ v => v = .agg #[.bool b16, .slice ad16 n16 c16, .slice ae16 m16 d16]), (fun w v => Rq w v ((((rawZ nega2 xa2 4 : Int) : Rat) / ((rawZ negb2 xb2 4 : Int) : Rat)) + (((rawZ nega3 xa3 4 : Int) : Rat) / ((rawZ negb3 xb3 4 : Int) : Rat)))), (fun _ v => v = .int .i64 (qc ((((rawZ nega1 xa1 4 : Int) : Rat) / ((rawZ negb1 xb1 4 : Int) : Rat)) + (((rawZ nega3 xa3 4 : Int) : Rat) / ((rawZ negb3 xb3 4 : Int) : Rat))) ((((rawZ nega2 xa2 4 : Int) : Rat) / ((rawZ negb2 xb2 4 : Int) : Rat)) + (((rawZ nega3 xa3 4 : Int) : Rat) / ((rawZ negb3 xb3 4 : Int) : Rat))))), (fun _ v => v = .int .i64 (qc (((rawZ nega1 xa1 4 : Int) : Rat) / ((rawZ negb1 xb1 4 : Int) : Rat)) (((rawZ nega2 xa2 4 : Int) : Rat) / ((rawZ negb2 xb2 4 : Int) : Rat)))), (fun _ v => v = .bool false), (fun _ v => v = .bool false), (fun _ v => v = .bool false), (fun _ v => v = .agg #[.bool b12, .slice ad12 n12 c12, .slice ae12 m12 d12]), (fun _ v => v = .agg #[.bool b16, .slice ad16 n16 c16, .slice ae16 m16 d16]), (fun w v => Rq w v ((((rawZ nega1 xa1 4 : Int) : Rat) / ((rawZ negb1 xb1 4 : Int) : Rat)) * (((rawZ nega3 xa3 4 : Int) : Rat) / ((rawZ negb3 xb3 4 : Int) : Rat)))), (fun _ v => v = .agg #[.bool b14, .slice ad14 n14 c14, .slice ae14 m14 d14]), (fun _ v => v = .agg #[.bool b16, .slice ad16 n16 c16, .slice ae16 m16 d16]), (fun w v => Rq w v ((((rawZ nega2 xa2 4 : Int) : Rat) / ((rawZ negb2 xb2 4 : Int) : Rat)) * (((rawZ nega3 xa3 4 : Int) : Rat) / ((rawZ negb3 xb3 4 : Int) : Rat)))), (fun _ v => v = .int .i64 (qc ((((rawZ nega1 xa1 4 : Int) : Rat) / ((rawZ negb1 xb1 4 : Int) : Rat)) * (((rawZ nega3 xa3 4 : Int) : Rat) / ((rawZ negb3 xb3 4 : Int) : Rat))) ((((rawZ nega2 xa2 4 : Int) : Rat) / ((rawZ negb2 xb2 4 : Int) : Rat)) * (((rawZ nega3 xa3 4 : Int) : Rat) / ((rawZ negb3 xb3 4 : Int) : Rat))))), (fun _ v => v = .int .i64 (qc (((rawZ nega1 xa1 4 : Int) : Rat) / ((rawZ negb1 xb1 4 : Int) : Rat)) (((rawZ nega2 xa2 4 : Int) : Rat) / ((rawZ negb2 xb2 4 : Int) : Rat)))), (fun _ v => v = .agg #[.bool b16, .slice ad16 n16 c16, .slice ae16 m16 d16]), (fun _ v => v = .int .i64 (sz (Rat.num (((rawZ nega3 xa3 4 : Int) : Rat) / ((rawZ negb3 xb3 4 : Int) : Rat))))), (fun _ v => v = .int .i64 ((qc (((rawZ nega1 xa1 4 : Int) : Rat) / ((rawZ negb1 xb1 4 : Int) : Rat)) (((rawZ nega2 xa2 4 : Int) : Rat) / ((rawZ negb2 xb2 4 : Int) : Rat))) * (sz (Rat.num (((rawZ nega3 xa3 4 : Int) : Rat) / ((rawZ negb3 xb3 4 : Int) : Rat)))))), (fun _ v => v = .bool false), (fun _ v => v = .bool false), (fun _ v => v = .bool false), (fun _ v => v = .agg #[.bool b12, .slice ad12 n12 c12, .slice ae12 m12 d12]), (fun _ v => v = .agg #[.bool b14, .slice ad14 n14 c14, .slice ae14 m14 d14]), (fun w v => Rq w v ((((rawZ nega1 xa1 4 : Int) : Rat) / ((rawZ negb1 xb1 4 : Int) : Rat)) - (((rawZ nega2 xa2 4 : Int) : Rat) / ((rawZ negb2 xb2 4 : Int) : Rat)))), (fun _ v => v = .int .i64 (sz (Rat.num ((((rawZ nega1 xa1 4 : Int) : Rat) / ((rawZ negb1 xb1 4 : Int) : Rat)) - (((rawZ nega2 xa2 4 : Int) : Rat) / ((rawZ negb2 xb2 4 : Int) : Rat)))))), (fun _ v => v = .int .i64 (qc (((rawZ nega1 xa1 4 : Int) : Rat) / ((rawZ negb1 xb1 4 : Int) : Rat)) (((rawZ nega2 xa2 4 : Int) : Rat) / ((rawZ negb2 xb2 4 : Int) : Rat)))), (fun _ v => v = .bool false), (fun _ v => v = .bool false)] [] (by decide +kernel) (by decide +kernel) rfl rfl rfl ⟨(Mb.eq _), (Mb.eq _), (Mb.eq _), (Mb.eq _), (Mb.eq _), (Mb.eq _), (Mb.eq _), (Mb.eq _), (Mb.eq _), (fun _ _ _ h hb => h.below hb), (Mb.eq _), (Mb.eq _), (fun _ _ _ h hb => h.below hb), (Mb.eq _), (Mb.eq _), (Mb.eq _), (Mb.eq _), (Mb.eq _), (Mb.eq _), (Mb.eq _), (fun _ _ _ h hb => h.below hb), (Mb.eq _), (Mb.eq _), (fun _ _ _ h hb => h.below hb), (Mb.eq _), (Mb.eq _), (Mb.eq _), (Mb.eq _), (Mb.eq _), (Mb.eq _), (Mb.eq _), (Mb.eq _), (Mb.eq _), (Mb.eq _), (fun _ _ _ h hb => h.below hb), (Mb.eq _), (Mb.eq _), (Mb.eq _), (Mb.eq _), trivial⟩ trivial ⟨?_, ?_, ?_, ?_, ?_, ?_, ?_, ?_, ?_, ?_, ?_, ?_, ?_, ?_, ?_, ?_, ?_, ?_, ?_, ?_, ?_, ?_, ?_, ?_, ?_, ?_, ?_, ?_, ?_, ?_, ?_, ?_, ?_, ?_, ?_, ?_, ?_, ?_, ?_, trivial⟩ ?_
      · intro a' w' hF' hb hd
        exact if_does (wanted_free rfl) (Does.vals (r_load (hF'.at 5 rfl) (ld_Rat (vs := [.bool b14, .slice ad14 n14 c14, .slice ae14 m14 d14]) (o8.below hb) rfl rfl)) ⟨rfl, Below.refl _ _, (fun h => absurd h (by decide))⟩)
      · intro a' w' hF' hb hd
        exact if_does (wanted_free rfl) (Does.vals (r_load (hF'.at 6 rfl) (ld_Rat (vs := [.bool b12, .slice ad12 n12 c12, .slice ae12 m12 d12]) (o7.below hb) rfl rfl)) ⟨rfl, Below.refl _ _, (fun h => absurd h (by decide))⟩)
      · intro a' w' hF' hb hd
        have e22 : a'.tmps.getD 22 undef = .agg #[.bool b14, .slice ad14 n14 c14, .slice ae14 m14 d14] := hd _ 22 (Array.mem_of_getElem? (i := 0) rfl) rfl rfl
        have e23 : a'.tmps.getD 23 undef = .agg #[.bool b12, .slice ad12 n12 c12, .slice ae12 m12 d12] := hd _ 23 (Array.mem_of_getElem? (i := 1) rfl) rfl rfl
        refine if_does (wanted_free rfl) (Does.calls (r_call Try.func68 en68.1 en68.2 (map2 e22 e23)) (rCmp_any _ _ (((rawZ nega2 xa2 4 : Int) : Rat) / ((rawZ negb2 xb2 4 : Int) : Rat)) (((rawZ nega1 xa1 4 : Int) : Rat) / ((rawZ negb1 xb1 4 : Int) : Rat)) 4 _ (hh9.below hb) (hh7.below hb) ((own5_lim nega2 negb2 oka2 okb2 4 (by decide)).up _ (by omega)) ((own5_lim nega1 negb1 oka1 okb1 4 (by decide)).up _ (by omega)) (by omega)) ?_)
        rintro e w'' ⟨rfl, bb⟩
        exact ⟨_, rfl, rfl, bb, (fun h => absurd h (by decide))⟩
      · intro a' w' hF' hb hd
        exact if_does (wanted_free rfl) (Does.vals (r_move (hF'.at 0 rfl)) ⟨rfl, Below.refl _ _, (fun h => absurd h (by decide))⟩)
      · intro a' w' hF' hb hd
        have e25 : a'.tmps.getD 25 undef = .int .i64 (qc (((rawZ nega1 xa1 4 : Int) : Rat) / ((rawZ negb1 xb1 4 : Int) : Rat)) (((rawZ nega2 xa2 4 : Int) : Rat) / ((rawZ negb2 xb2 4 : Int) : Rat))) := hd _ 25 (Array.mem_of_getElem? (i := 0) rfl) rfl rfl
        exact if_does (wanted_free rfl) (Does.vals (r_un e25 (bn_neg (neg_rng (qc_bd _ _)).1 (neg_rng (qc_bd _ _)).2)) ⟨rfl, Below.refl _ _, (fun h => absurd h (by decide))⟩)
      · intro a' w' hF' hb hd
        have e24 : a'.tmps.getD 24 undef = .int .i64 (qc (((rawZ nega2 xa2 4 : Int) : Rat) / ((rawZ negb2 xb2 4 : Int) : Rat)) (((rawZ nega1 xa1 4 : Int) : Rat) / ((rawZ negb1 xb1 4 : Int) : Rat))) := hd _ 24 (Array.mem_of_getElem? (i := 0) rfl) rfl rfl
        have e26 : a'.tmps.getD 26 undef = .int .i64 (-(qc (((rawZ nega1 xa1 4 : Int) : Rat) / ((rawZ negb1 xb1 4 : Int) : Rat)) (((rawZ nega2 xa2 4 : Int) : Rat) / ((rawZ negb2 xb2 4 : Int) : Rat)))) := hd _ 26 (Array.mem_of_getElem? (i := 1) rfl) rfl rfl
        exact if_does (wanted_free rfl) (Does.vals (r_bin e24 e26 eg_scalar (bi_int (ic_neq (c := false) (nex (qc_symm _ _))) (by simp))) ⟨rfl, Below.refl _ _, (fun h => absurd h (by decide))⟩)
      · intro a' w' hF' hb hd
        have e27 : a'.tmps.getD 27 undef = .bool false := hd _ 27 (Array.mem_of_getElem? (i := 0) rfl) rfl rfl
        exact if_does (wanted_free rfl) (Does.vals (r_move e27) ⟨rfl, Below.refl _ _, (fun h => absurd h (by decide))⟩)
      · intro a' w' hF' hb hd
        have e28 : a'.tmps.getD 28 undef = .bool false := hd _ 28 (Array.mem_of_getElem? (i := 0) rfl) rfl rfl
        exact if_does (wanted_by rfl rfl e28 rfl) (Does.vals (r_load (hF'.at 6 rfl) (ld_Rat (vs := [.bool b12, .slice ad12 n12 c12, .slice ae12 m12 d12]) (o7.below hb) rfl rfl)) ⟨rfl, Below.refl _ _, (fun h => absurd h (by decide))⟩)
      · intro a' w' hF' hb hd
        have e28 : a'.tmps.getD 28 undef = .bool false := hd _ 28 (Array.mem_of_getElem? (i := 0) rfl) rfl rfl
        exact if_does (wanted_by rfl rfl e28 rfl) (Does.vals (r_load (hF'.at 4 rfl) (ld_Rat (vs := [.bool b16, .slice ad16 n16 c16, .slice ae16 m16 d16]) (o9.below hb) rfl rfl)) ⟨rfl, Below.refl _ _, (fun h => absurd h (by decide))⟩)
      · intro a' w' hF' hb hd
        have e28 : a'.tmps.getD 28 undef = .bool false := hd _ 28 (Array.mem_of_getElem? (i := 2) rfl) rfl rfl
        have e29 : a'.tmps.getD 29 undef = .agg #[.bool b12, .slice ad12 n12 c12, .slice ae12 m12 d12] := hd _ 29 (Array.mem_of_getElem? (i := 0) rfl) rfl rfl
        have e30 : a'.tmps.getD 30 undef = .agg #[.bool b16, .slice ad16 n16 c16, .slice ae16 m16 d16] := hd _ 30 (Array.mem_of_getElem? (i := 1) rfl) rfl rfl
        refine if_does (wanted_by rfl rfl e28 rfl) (Does.calls (r_call Try.func60 en60.1 en60.2 (map2 e29 e30)) (rAdd_any _ _ (((rawZ nega1 xa1 4 : Int) : Rat) / ((rawZ negb1 xb1 4 : Int) : Rat)) (((rawZ nega3 xa3 4 : Int) : Rat) / ((rawZ negb3 xb3 4 : Int) : Rat)) 4 _ (hh7.below hb) (hh11.below hb) ((own5_lim nega1 negb1 oka1 okb1 4 (by decide)).up _ (by omega)) ((own5_lim nega3 negb3 oka3 okb3 4 (by decide)).up _ (by omega)) (by omega)) ?_)
        rintro e w'' ⟨v', rfl, h', bb⟩
        exact ⟨_, rfl, h', bb, (fun h => absurd h (by decide))⟩
      · intro a' w' hF' hb hd
        have e28 : a'.tmps.getD 28 undef = .bool false := hd _ 28 (Array.mem_of_getElem? (i := 0) rfl) rfl rfl
        exact if_does (wanted_by rfl rfl e28 rfl) (Does.vals (r_load (hF'.at 5 rfl) (ld_Rat (vs := [.bool b14, .slice ad14 n14 c14, .slice ae14 m14 d14]) (o8.below hb) rfl rfl)) ⟨rfl, Below.refl _ _, (fun h => absurd h (by decide))⟩)
      · intro a' w' hF' hb hd
        have e28 : a'.tmps.getD 28 undef = .bool false := hd _ 28 (Array.mem_of_getElem? (i := 0) rfl) rfl rfl
        exact if_does (wanted_by rfl rfl e28 rfl) (Does.vals (r_load (hF'.at 4 rfl) (ld_Rat (vs := [.bool b16, .slice ad16 n16 c16, .slice ae16 m16 d16]) (o9.below hb) rfl rfl)) ⟨rfl, Below.refl _ _, (fun h => absurd h (by decide))⟩)
      · intro a' w' hF' hb hd
        have e28 : a'.tmps.getD 28 undef = .bool false := hd _ 28 (Array.mem_of_getElem? (i := 3) rfl) rfl rfl
        have e32 : a'.tmps.getD 32 undef = .agg #[.bool b14, .slice ad14 n14 c14, .slice ae14 m14 d14] := hd _ 32 (Array.mem_of_getElem? (i := 0) rfl) rfl rfl
        have e33 : a'.tmps.getD 33 undef = .agg #[.bool b16, .slice ad16 n16 c16, .slice ae16 m16 d16] := hd _ 33 (Array.mem_of_getElem? (i := 1) rfl) rfl rfl
        refine if_does (wanted_by rfl rfl e28 rfl) (Does.calls (r_call Try.func60 en60.1 en60.2 (map2 e32 e33)) (rAdd_any _ _ (((rawZ nega2 xa2 4 : Int) : Rat) / ((rawZ negb2 xb2 4 : Int) : Rat)) (((rawZ nega3 xa3 4 : Int) : Rat) / ((rawZ negb3 xb3 4 : Int) : Rat)) 4 _ (hh9.below hb) (hh11.below hb) ((own5_lim nega2 negb2 oka2 okb2 4 (by decide)).up _ (by omega)) ((own5_lim nega3 negb3 oka3 okb3 4 (by decide)).up _ (by omega)) (by omega)) ?_)
        rintro e w'' ⟨v', rfl, h', bb⟩
        exact ⟨_, rfl, h', bb, (fun h => absurd h (by decide))⟩
      · intro a' w' hF' hb hd
        have e28 : a'.tmps.getD 28 undef = .bool false := hd _ 28 (Array.mem_of_getElem? (i := 3) rfl) rfl rfl
        obtain ⟨v31_0, e31, h31_1⟩ : ∃ v, a'.tmps.getD 31 undef = v ∧ Rq w' v ((((rawZ nega1 xa1 4 : Int) : Rat) / ((rawZ negb1 xb1 4 : Int) : Rat)) + (((rawZ nega3 xa3 4 : Int) : Rat) / ((rawZ negb3 xb3 4 : Int) : Rat))) := ⟨_, rfl, hd _ 31 (Array.mem_of_getElem? (i := 0) rfl) rfl rfl⟩
        obtain ⟨v34_0, e34, h34_1⟩ : ∃ v, a'.tmps.getD 34 undef = v ∧ Rq w' v ((((rawZ nega2 xa2 4 : Int) : Rat) / ((rawZ negb2 xb2 4 : Int) : Rat)) + (((rawZ nega3 xa3 4 : Int) : Rat) / ((rawZ negb3 xb3 4 : Int) : Rat))) := ⟨_, rfl, hd _ 34 (Array.mem_of_getElem? (i := 1) rfl) rfl rfl⟩
        refine if_does (wanted_by rfl rfl e28 rfl) (Does.calls (r_call Try.func68 en68.1 en68.2 (map2 e31 e34)) (rCmp_any _ _ ((((rawZ nega1 xa1 4 : Int) : Rat) / ((rawZ negb1 xb1 4 : Int) : Rat)) + (((rawZ nega3 xa3 4 : Int) : Rat) / ((rawZ negb3 xb3 4 : Int) : Rat))) ((((rawZ nega2 xa2 4 : Int) : Rat) / ((rawZ negb2 xb2 4 : Int) : Rat)) + (((rawZ nega3 xa3 4 : Int) : Rat) / ((rawZ negb3 xb3 4 : Int) : Rat))) (4 + 4 + 1) _ h31_1 h34_1 ((rlim_add (own5_lim nega1 negb1 oka1 okb1 4 (by decide)) (own5_lim nega3 negb3 oka3 okb3 4 (by decide))).up _ (by omega)) ((rlim_add (own5_lim nega2 negb2 oka2 okb2 4 (by decide)) (own5_lim nega3 negb3 oka3 okb3 4 (by decide))).up _ (by omega)) (by omega)) ?_)
        rintro e w'' ⟨rfl, bb⟩
        exact ⟨_, rfl, rfl, bb, (fun h => absurd h (by decide))⟩
      · intro a' w' hF' hb hd
        have e28 : a'.tmps.getD 28 undef = .bool false := hd _ 28 (Array.mem_of_getElem? (i := 0) rfl) rfl rfl
        exact if_does (wanted_by rfl rfl e28 rfl) (Does.vals (r_move (hF'.at 0 rfl)) ⟨rfl, Below.refl _ _, (fun h => absurd h (by decide))⟩)
      · intro a' w' hF' hb hd
        have e28 : a'.tmps.getD 28 undef = .bool false := hd _ 28 (Array.mem_of_getElem? (i := 2) rfl) rfl rfl
        have e35 : a'.tmps.getD 35 undef = .int .i64 (qc ((((rawZ nega1 xa1 4 : Int) : Rat) / ((rawZ negb1 xb1 4 : Int) : Rat)) + (((rawZ nega3 xa3 4 : Int) : Rat) / ((rawZ negb3 xb3 4 : Int) : Rat))) ((((rawZ nega2 xa2 4 : Int) : Rat) / ((rawZ negb2 xb2 4 : Int) : Rat)) + (((rawZ nega3 xa3 4 : Int) : Rat) / ((rawZ negb3 xb3 4 : Int) : Rat)))) := hd _ 35 (Array.mem_of_getElem? (i := 0) rfl) rfl rfl
        have e36 : a'.tmps.getD 36 undef = .int .i64 (qc (((rawZ nega1 xa1 4 : Int) : Rat) / ((rawZ negb1 xb1 4 : Int) : Rat)) (((rawZ nega2 xa2 4 : Int) : Rat) / ((rawZ negb2 xb2 4 : Int) : Rat))) := hd _ 36 (Array.mem_of_getElem? (i := 1) rfl) rfl rfl
        exact if_does (wanted_by rfl rfl e28 rfl) (Does.vals (r_bin e35 e36 eg_scalar (bi_int (ic_neq (c := false) (nex (qc_add _ _ _))) (by simp))) ⟨rfl, Below.refl _ _, (fun h => absurd h (by decide))⟩)
      · intro a' w' hF' hb hd
        have e28 : a'.tmps.getD 28 undef = .bool false := hd _ 28 (Array.mem_of_getElem? (i := 0) rfl) rfl rfl
        have e37 : a'.tmps.getD 37 undef = .bool false := hd _ 37 (Array.mem_of_getElem? (i := 1) rfl) rfl rfl
        exact if_does (wanted_free rfl) (Does.vals (r_pick_f e28 e37) ⟨rfl, Below.refl _ _, (fun h => absurd h (by decide))⟩)
      · intro a' w' hF' hb hd
        have e38 : a'.tmps.getD 38 undef = .bool false := hd _ 38 (Array.mem_of_getElem? (i := 0) rfl) rfl rfl
        exact if_does (wanted_free rfl) (Does.vals (r_move e38) ⟨rfl, Below.refl _ _, (fun h => absurd h (by decide))⟩)
      · intro a' w' hF' hb hd
        have e39 : a'.tmps.getD 39 undef = .bool false := hd _ 39 (Array.mem_of_getElem? (i := 0) rfl) rfl rfl
        exact if_does (wanted_by rfl rfl e39 rfl) (Does.vals (r_load (hF'.at 6 rfl) (ld_Rat (vs := [.bool b12, .slice ad12 n12 c12, .slice ae12 m12 d12]) (o7.below hb) rfl rfl)) ⟨rfl, Below.refl _ _, (fun h => absurd h (by decide))⟩)
      · intro a' w' hF' hb hd
        have e39 : a'.tmps.getD 39 undef = .bool false := hd _ 39 (Array.mem_of_getElem? (i := 0) rfl) rfl rfl
        exact if_does (wanted_by rfl rfl e39 rfl) (Does.vals (r_load (hF'.at 4 rfl) (ld_Rat (vs := [.bool b16, .slice ad16 n16 c16, .slice ae16 m16 d16]) (o9.below hb) rfl rfl)) ⟨rfl, Below.refl _ _, (fun h => absurd h (by decide))⟩)
      · intro a' w' hF' hb hd
        have e39 : a'.tmps.getD 39 undef = .bool false := hd _ 39 (Array.mem_of_getElem? (i := 2) rfl) rfl rfl
        have e40 : a'.tmps.getD 40 undef = .agg #[.bool b12, .slice ad12 n12 c12, .slice ae12 m12 d12] := hd _ 40 (Array.mem_of_getElem? (i := 0) rfl) rfl rfl
        have e41 : a'.tmps.getD 41 undef = .agg #[.bool b16, .slice ad16 n16 c16, .slice ae16 m16 d16] := hd _ 41 (Array.mem_of_getElem? (i := 1) rfl) rfl rfl
        refine if_does (wanted_by rfl rfl e39 rfl) (Does.calls (r_call Try.func64 en64.1 en64.2 (map2 e40 e41)) (rMul_any _ _ (((rawZ nega1 xa1 4 : Int) : Rat) / ((rawZ negb1 xb1 4 : Int) : Rat)) (((rawZ nega3 xa3 4 : Int) : Rat) / ((rawZ negb3 xb3 4 : Int) : Rat)) 4 _ (hh7.below hb) (hh11.below hb) ((own5_lim nega1 negb1 oka1 okb1 4 (by decide)).up _ (by omega)) ((own5_lim nega3 negb3 oka3 okb3 4 (by decide)).up _ (by omega)) (by omega)) ?_)
        rintro e w'' ⟨v', rfl, h', bb⟩
        exact ⟨_, rfl, h', bb, (fun h => absurd h (by decide))⟩
      · intro a' w' hF' hb hd
        have e39 : a'.tmps.getD 39 undef = .bool false := hd _ 39 (Array.mem_of_getElem? (i := 0) rfl) rfl rfl
        exact if_does (wanted_by rfl rfl e39 rfl) (Does.vals (r_load (hF'.at 5 rfl) (ld_Rat (vs := [.bool b14, .slice ad14 n14 c14, .slice ae14 m14 d14]) (o8.below hb) rfl rfl)) ⟨rfl, Below.refl _ _, (fun h => absurd h (by decide))⟩)
      · intro a' w' hF' hb hd
        have e39 : a'.tmps.getD 39 undef = .bool false := hd _ 39 (Array.mem_of_getElem? (i := 0) rfl) rfl rfl
        exact if_does (wanted_by rfl rfl e39 rfl) (Does.vals (r_load (hF'.at 4 rfl) (ld_Rat (vs := [.bool b16, .slice ad16 n16 c16, .slice ae16 m16 d16]) (o9.below hb) rfl rfl)) ⟨rfl, Below.refl _ _, (fun h => absurd h (by decide))⟩)
      · intro a' w' hF' hb hd
        have e39 : a'.tmps.getD 39 undef = .bool false := hd _ 39 (Array.mem_of_getElem? (i := 3) rfl) rfl rfl
        have e43 : a'.tmps.getD 43 undef = .agg #[.bool b14, .slice ad14 n14 c14, .slice ae14 m14 d14] := hd _ 43 (Array.mem_of_getElem? (i := 0) rfl) rfl rfl
        have e44 : a'.tmps.getD 44 undef = .agg #[.bool b16, .slice ad16 n16 c16, .slice ae16 m16 d16] := hd _ 44 (Array.mem_of_getElem? (i := 1) rfl) rfl rfl
        refine if_does (wanted_by rfl rfl e39 rfl) (Does.calls (r_call Try.func64 en64.1 en64.2 (map2 e43 e44)) (rMul_any _ _ (((rawZ nega2 xa2 4 : Int) : Rat) / ((rawZ negb2 xb2 4 : Int) : Rat)) (((rawZ nega3 xa3 4 : Int) : Rat) / ((rawZ negb3 xb3 4 : Int) : Rat)) 4 _ (hh9.below hb) (hh11.below hb) ((own5_lim nega2 negb2 oka2 okb2 4 (by decide)).up _ (by omega)) ((own5_lim nega3 negb3 oka3 okb3 4 (by decide)).up _ (by omega)) (by omega)) ?_)
        rintro e w'' ⟨v', rfl, h', bb⟩
        exact ⟨_, rfl, h', bb, (fun h => absurd h (by decide))⟩
      · intro a' w' hF' hb hd
        have e39 : a'.tmps.getD 39 undef = .bool false := hd _ 39 (Array.mem_of_getElem? (i := 3) rfl) rfl rfl
        obtain ⟨v42_0, e42, h42_1⟩ : ∃ v, a'.tmps.getD 42 undef = v ∧ Rq w' v ((((rawZ nega1 xa1 4 : Int) : Rat) / ((rawZ negb1 xb1 4 : Int) : Rat)) * (((rawZ nega3 xa3 4 : Int) : Rat) / ((rawZ negb3 xb3 4 : Int) : Rat))) := ⟨_, rfl, hd _ 42 (Array.mem_of_getElem? (i := 0) rfl) rfl rfl⟩
        obtain ⟨v45_0, e45, h45_1⟩ : ∃ v, a'.tmps.getD 45 undef = v ∧ Rq w' v ((((rawZ nega2 xa2 4 : Int) : Rat) / ((rawZ negb2 xb2 4 : Int) : Rat)) * (((rawZ nega3 xa3 4 : Int) : Rat) / ((rawZ negb3 xb3 4 : Int) : Rat))) := ⟨_, rfl, hd _ 45 (Array.mem_of_getElem? (i := 1) rfl) rfl rfl⟩
        refine if_does (wanted_by rfl rfl e39 rfl) (Does.calls (r_call Try.func68 en68.1 en68.2 (map2 e42 e45)) (rCmp_any _ _ ((((rawZ nega1 xa1 4 : Int) : Rat) / ((rawZ negb1 xb1 4 : Int) : Rat)) * (((rawZ nega3 xa3 4 : Int) : Rat) / ((rawZ negb3 xb3 4 : Int) : Rat))) ((((rawZ nega2 xa2 4 : Int) : Rat) / ((rawZ negb2 xb2 4 : Int) : Rat)) * (((rawZ nega3 xa3 4 : Int) : Rat) / ((rawZ negb3 xb3 4 : Int) : Rat))) (4 + 4) _ h42_1 h45_1 ((rlim_mul (own5_lim nega1 negb1 oka1 okb1 4 (by decide)) (own5_lim nega3 negb3 oka3 okb3 4 (by decide))).up _ (by omega)) ((rlim_mul (own5_lim nega2 negb2 oka2 okb2 4 (by decide)) (own5_lim nega3 negb3 oka3 okb3 4 (by decide))).up _ (by omega)) (by omega)) ?_)
        rintro e w'' ⟨rfl, bb⟩
        exact ⟨_, rfl, rfl, bb, (fun h => absurd h (by decide))⟩
      · intro a' w' hF' hb hd
        have e39 : a'.tmps.getD 39 undef = .bool false := hd _ 39 (Array.mem_of_getElem? (i := 0) rfl) rfl rfl
        exact if_does (wanted_by rfl rfl e39 rfl) (Does.vals (r_move (hF'.at 0 rfl)) ⟨rfl, Below.refl _ _, (fun h => absurd h (by decide))⟩)
      · intro a' w' hF' hb hd
        have e39 : a'.tmps.getD 39 undef = .bool false := hd _ 39 (Array.mem_of_getElem? (i := 0) rfl) rfl rfl
        exact if_does (wanted_by rfl rfl e39 rfl) (Does.vals (r_load (hF'.at 4 rfl) (ld_Rat (vs := [.bool b16, .slice ad16 n16 c16, .slice ae16 m16 d16]) (o9.below hb) rfl rfl)) ⟨rfl, Below.refl _ _, (fun h => absurd h (by decide))⟩)
      · intro a' w' hF' hb hd
        have e39 : a'.tmps.getD 39 undef = .bool false := hd _ 39 (Array.mem_of_getElem? (i := 2) rfl) rfl rfl
        have e48 : a'.tmps.getD 48 undef = .agg #[.bool b16, .slice ad16 n16 c16, .slice ae16 m16 d16] := hd _ 48 (Array.mem_of_getElem? (i := 0) rfl) rfl rfl
        refine if_does (wanted_by rfl rfl e39 rfl) (Does.calls (r_call Try.func58 en58.1 en58.2 (map1 e48)) (rsgn_any _ (((rawZ nega3 xa3 4 : Int) : Rat) / ((rawZ negb3 xb3 4 : Int) : Rat)) _ (hh11.below hb)) ?_)
        rintro e w'' ⟨rfl, bb⟩
        exact ⟨_, rfl, rfl, bb, (fun h => absurd h (by decide))⟩
      · intro a' w' hF' hb hd
        have e39 : a'.tmps.getD 39 undef = .bool false := hd _ 39 (Array.mem_of_getElem? (i := 2) rfl) rfl rfl
        have e47 : a'.tmps.getD 47 undef = .int .i64 (qc (((rawZ nega1 xa1 4 : Int) : Rat) / ((rawZ negb1 xb1 4 : Int) : Rat)) (((rawZ nega2 xa2 4 : Int) : Rat) / ((rawZ negb2 xb2 4 : Int) : Rat))) := hd _ 47 (Array.mem_of_getElem? (i := 0) rfl) rfl rfl
        have e49 : a'.tmps.getD 49 undef = .int .i64 (sz (Rat.num (((rawZ nega3 xa3 4 : Int) : Rat) / ((rawZ negb3 xb3 4 : Int) : Rat)))) := hd _ 49 (Array.mem_of_getElem? (i := 1) rfl) rfl rfl
        exact if_does (wanted_by rfl rfl e39 rfl) (Does.vals (r_bin e47 e49 eg_scalar (ia_mul (small_mul (qc_bd _ _) (sz_bd _)).1 (small_mul (qc_bd _ _) (sz_bd _)).2)) ⟨rfl, Below.refl _ _, (fun h => absurd h (by decide))⟩)
      · intro a' w' hF' hb hd
        have e39 : a'.tmps.getD 39 undef = .bool false := hd _ 39 (Array.mem_of_getElem? (i := 2) rfl) rfl rfl
        have e46 : a'.tmps.getD 46 undef = .int .i64 (qc ((((rawZ nega1 xa1 4 : Int) : Rat) / ((rawZ negb1 xb1 4 : Int) : Rat)) * (((rawZ nega3 xa3 4 : Int) : Rat) / ((rawZ negb3 xb3 4 : Int) : Rat))) ((((rawZ nega2 xa2 4 : Int) : Rat) / ((rawZ negb2 xb2 4 : Int) : Rat)) * (((rawZ nega3 xa3 4 : Int) : Rat) / ((rawZ negb3 xb3 4 : Int) : Rat)))) := hd _ 46 (Array.mem_of_getElem? (i := 0) rfl) rfl rfl
        have e50 : a'.tmps.getD 50 undef = .int .i64 ((qc (((rawZ nega1 xa1 4 : Int) : Rat) / ((rawZ negb1 xb1 4 : Int) : Rat)) (((rawZ nega2 xa2 4 : Int) : Rat) / ((rawZ negb2 xb2 4 : Int) : Rat))) * (sz (Rat.num (((rawZ nega3 xa3 4 : Int) : Rat) / ((rawZ negb3 xb3 4 : Int) : Rat))))) := hd _ 50 (Array.mem_of_getElem? (i := 1) rfl) rfl rfl
        exact if_does (wanted_by rfl rfl e39 rfl) (Does.vals (r_bin e46 e50 eg_scalar (bi_int (ic_neq (c := false) (nex (qc_mul _ _ _))) (by simp))) ⟨rfl, Below.refl _ _, (fun h => absurd h (by decide))⟩)
      · intro a' w' hF' hb hd
        have e39 : a'.tmps.getD 39 undef = .bool false := hd _ 39 (Array.mem_of_getElem? (i := 0) rfl) rfl rfl
        have e51 : a'.tmps.getD 51 undef = .bool false := hd _ 51 (Array.mem_of_getElem? (i := 1) rfl) rfl rfl
        exact if_does (wanted_free rfl) (Does.vals (r_pick_f e39 e51) ⟨rfl, Below.refl _ _, (fun h => absurd h (by decide))⟩)
      · intro a' w' hF' hb hd
        have e52 : a'.tmps.getD 52 undef = .bool false := hd _ 52 (Array.mem_of_getElem? (i := 0) rfl) rfl rfl
        exact if_does (wanted_free rfl) (Does.vals (r_move e52) ⟨rfl, Below.refl _ _, (fun h => absurd h (by decide))⟩)
      · intro a' w' hF' hb hd
        have e53 : a'.tmps.getD 53 undef = .bool false := hd _ 53 (Array.mem_of_getElem? (i := 0) rfl) rfl rfl
        exact if_does (wanted_by rfl rfl e53 rfl) (Does.vals (r_load (hF'.at 6 rfl) (ld_Rat (vs := [.bool b12, .slice ad12 n12 c12, .slice ae12 m12 d12]) (o7.below hb) rfl rfl)) ⟨rfl, Below.refl _ _, (fun h => absurd h (by decide))⟩)
      · intro a' w' hF' hb hd
        have e53 : a'.tmps.getD 53 undef = .bool false := hd _ 53 (Array.mem_of_getElem? (i := 0) rfl) rfl rfl
        exact if_does (wanted_by rfl rfl e53 rfl) (Does.vals (r_load (hF'.at 5 rfl) (ld_Rat (vs := [.bool b14, .slice ad14 n14 c14, .slice ae14 m14 d14]) (o8.below hb) rfl rfl)) ⟨rfl, Below.refl _ _, (fun h => absurd h (by decide))⟩)
      · intro a' w' hF' hb hd
        have e53 : a'.tmps.getD 53 undef = .bool false := hd _ 53 (Array.mem_of_getElem? (i := 2) rfl) rfl rfl
        have e54 : a'.tmps.getD 54 undef = .agg #[.bool b12, .slice ad12 n12 c12, .slice ae12 m12 d12] := hd _ 54 (Array.mem_of_getElem? (i := 0) rfl) rfl rfl
        have e55 : a'.tmps.getD 55 undef = .agg #[.bool b14, .slice ad14 n14 c14, .slice ae14 m14 d14] := hd _ 55 (Array.mem_of_getElem? (i := 1) rfl) rfl rfl
        refine if_does (wanted_by rfl rfl e53 rfl) (Does.calls (r_call Try.func62 en62.1 en62.2 (map2 e54 e55)) (rSub_any _ _ (((rawZ nega1 xa1 4 : Int) : Rat) / ((rawZ negb1 xb1 4 : Int) : Rat)) (((rawZ nega2 xa2 4 : Int) : Rat) / ((rawZ negb2 xb2 4 : Int) : Rat)) 4 _ (hh7.below hb) (hh9.below hb) ((own5_lim nega1 negb1 oka1 okb1 4 (by decide)).up _ (by omega)) ((own5_lim nega2 negb2 oka2 okb2 4 (by decide)).up _ (by omega)) (by omega)) ?_)
        rintro e w'' ⟨v', rfl, h', bb⟩
        exact ⟨_, rfl, h', bb, (fun h => absurd h (by decide))⟩
      · intro a' w' hF' hb hd
        have e53 : a'.tmps.getD 53 undef = .bool false := hd _ 53 (Array.mem_of_getElem? (i := 2) rfl) rfl rfl
        obtain ⟨v56_0, e56, h56_1⟩ : ∃ v, a'.tmps.getD 56 undef = v ∧ Rq w' v ((((rawZ nega1 xa1 4 : Int) : Rat) / ((rawZ negb1 xb1 4 : Int) : Rat)) - (((rawZ nega2 xa2 4 : Int) : Rat) / ((rawZ negb2 xb2 4 : Int) : Rat))) := ⟨_, rfl, hd _ 56 (Array.mem_of_getElem? (i := 0) rfl) rfl rfl⟩
        refine if_does (wanted_by rfl rfl e53 rfl) (Does.calls (r_call Try.func58 en58.1 en58.2 (map1 e56)) (rsgn_any _ ((((rawZ nega1 xa1 4 : Int) : Rat) / ((rawZ negb1 xb1 4 : Int) : Rat)) - (((rawZ nega2 xa2 4 : Int) : Rat) / ((rawZ negb2 xb2 4 : Int) : Rat))) _ h56_1) ?_)
        rintro e w'' ⟨rfl, bb⟩
        exact ⟨_, rfl, rfl, bb, (fun h => absurd h (by decide))⟩
      · intro a' w' hF' hb hd
        have e53 : a'.tmps.getD 53 undef = .bool false := hd _ 53 (Array.mem_of_getElem? (i := 0) rfl) rfl rfl
        exact if_does (wanted_by rfl rfl e53 rfl) (Does.vals (r_move (hF'.at 0 rfl)) ⟨rfl, Below.refl _ _, (fun h => absurd h (by decide))⟩)
      · intro a' w' hF' hb hd
        have e53 : a'.tmps.getD 53 undef = .bool false := hd _ 53 (Array.mem_of_getElem? (i := 2) rfl) rfl rfl
        have e57 : a'.tmps.getD 57 undef = .int .i64 (sz (Rat.num ((((rawZ nega1 xa1 4 : Int) : Rat) / ((rawZ negb1 xb1 4 : Int) : Rat)) - (((rawZ nega2 xa2 4 : Int) : Rat) / ((rawZ negb2 xb2 4 : Int) : Rat))))) := hd _ 57 (Array.mem_of_getElem? (i := 0) rfl) rfl rfl
        have e58 : a'.tmps.getD 58 undef = .int .i64 (qc (((rawZ nega1 xa1 4 : Int) : Rat) / ((rawZ negb1 xb1 4 : Int) : Rat)) (((rawZ nega2 xa2 4 : Int) : Rat) / ((rawZ negb2 xb2 4 : Int) : Rat))) := hd _ 58 (Array.mem_of_getElem? (i := 1) rfl) rfl rfl
        exact if_does (wanted_by rfl rfl e53 rfl) (Does.vals (r_bin e57 e58 eg_scalar (bi_int (ic_neq (c := false) (nex (qc_sub _ _))) (by simp))) ⟨rfl, Below.refl _ _, (fun h => absurd h (by decide))⟩)
      · intro a' w' hF' hb hd
        have e53 : a'.tmps.getD 53 undef = .bool false := hd _ 53 (Array.mem_of_getElem? (i := 0) rfl) rfl rfl
        have e59 : a'.tmps.getD 59 undef = .bool false := hd _ 59 (Array.mem_of_getElem? (i := 1) rfl) rfl rfl
        exact if_does (wanted_free rfl) (Does.vals (r_pick_f e53 e59) ⟨rfl, Below.refl _ _, (fun h => absurd h (by decide))⟩)
      intro a w22 hF bb hall hne
      have e60 : a.tmps.getD 60 undef = .bool false := hall 38 60 rfl
      clear hall hne
      replace hf13 := hf13.below bb
      replace hd12 := hd12.below bb
      replace hh7 := hh7.below bb
      replace hn12 := hn12.below bb
      replace hf15 := hf15.below bb
      replace hd14 := hd14.below bb
      replace hh9 := hh9.below bb
      replace hn14 := hn14.below bb
      replace hf17 := hf17.below bb
      replace hd16 := hd16.below bb
      replace hh11 := hh11.below bb
      replace hn16 := hn16.below bb
      replace o7 := o7.below bb
      replace o8 := o8.below bb
      replace o9 := o9.below bb
      replace bel := below_to bel bb
      clear bb
      replace hF := hF.add e60
      clear e60
      refine E.nil ?_
      refine wp_cond_false (hF.at 0 rfl) ?_
      refine wp_skip ?_
      refine E.norm ?_
      refine wp_seq ?_
      refine E.seq ?_
      refine E.opv hF (r_move (hF.at 1 rfl)) rfl rfl rfl rfl fun a hF => ?_
      refine E.opv hF (r_bin (hF.at 0 rfl) ev_c eg_scalar (bi_int (ic_leq (c := true) (dec_t hc1)) (by simp))) rfl rfl rfl rfl fun a hF => ?_
      refine E.opv hF (r_move (hF.at 0 rfl)) rfl rfl rfl rfl fun a hF => ?_
      refine E.opvg hF (r_load (hF.at 9 rfl) (ld_Rat (vs := [.bool b14, .slice ad14 n14 c14, .slice ae14 m14 d14]) o8 rfl rfl)) (wanted_by rfl rfl (hF.at 0 rfl) rfl) rfl rfl rfl fun a hF => ?_
      refine E.opvg hF (r_load (hF.at 9 rfl) (ld_Rat (vs := [.bool b16, .slice ad16 n16 c16, .slice ae16 m16 d16]) o9 rfl rfl)) (wanted_by rfl rfl (hF.at 1 rfl) rfl) rfl rfl rfl fun a hF => ?_
      refine E.callg hF (r_call Try.func68 en68.1 en68.2 (map2 (hF.at 1 rfl) (hF.at 0 rfl))) (rCmp_any _ _ (((rawZ nega2 xa2 4 : Int) : Rat) / ((rawZ negb2 xb2 4 : Int) : Rat)) (((rawZ nega3 xa3 4 : Int) : Rat) / ((rawZ negb3 xb3 4 : Int) : Rat)) 4 _ hh9 hh11 ((own5_lim nega2 negb2 oka2 okb2 4 (by decide)).up _ (by omega)) ((own5_lim nega3 negb3 oka3 okb3 4 (by decide)).up _ (by omega)) (by omega)) (wanted_by rfl rfl (hF.at 2 rfl) rfl) rfl rfl rfl ?_
      rintro e w23 ⟨rfl, bb⟩
      refine ⟨_, rfl, ?_⟩
      intro a hF
      replace hf13 := hf13.below bb
      replace hd12 := hd12.below bb
      replace hh7 := hh7.below bb
      replace hn12 := hn12.below bb
      replace hf17 := hf17.below bb
      replace hd16 := hd16.below bb
      replace hh11 := hh11.below bb
      replace hn16 := hn16.below bb
      replace o7 := o7.below bb
      replace o9 := o9.below bb
      replace bel := below_to bel bb
      clear bb
      refine E.opvg hF (r_bin (hF.at 0 rfl) ev_c eg_scalar (bi_int (ic_leq (c := false) (dec_f hc2)) (by simp))) (wanted_by rfl rfl (hF.at 3 rfl) rfl) rfl rfl rfl fun a hF => ?_
      refine E.opv hF (r_pick_t (hF.at 4 rfl) (hF.at 0 rfl)) rfl rfl rfl rfl fun a hF => ?_
      refine E.opv hF (r_un (hF.at 0 rfl) (bn_not _ true rfl)) rfl rfl rfl rfl fun a hF => ?_
      refine E.opv hF (r_move (hF.at 0 rfl)) rfl rfl rfl rfl fun a hF => ?_
      refine E.unwanted hF (wanted_by rfl rfl (hF.at 0 rfl) rfl) rfl rfl rfl fun a hF => ?_
      refine E.unwanted hF (wanted_by rfl rfl (hF.at 1 rfl) rfl) rfl rfl rfl fun a hF => ?_
      refine E.unwanted hF (wanted_by rfl rfl (hF.at 2 rfl) rfl) rfl rfl rfl fun a hF => ?_
      refine E.unwanted hF (wanted_by rfl rfl (hF.at 3 rfl) rfl) rfl rfl rfl fun a hF => ?_
      refine E.opv hF (r_pick_t (hF.at 4 rfl) ev_c) rfl rfl rfl rfl fun a hF => ?_
      refine E.opset (L' := [(6, .bool true), (75, .bool true), (74, undef), (73, undef), (72, undef), (71, undef), (70, .bool true), (69, .bool true), (68, .bool false), (67, .bool false), (66, .int .i64 (qc (((rawZ nega2 xa2 4 : Int) : Rat) / ((rawZ negb2 xb2 4 : Int) : Rat)) (((rawZ nega3 xa3 4 : Int) : Rat) / ((rawZ negb3 xb3 4 : Int) : Rat)))), (65, .agg #[.bool b16, .slice ad16 n16 c16, .slice ae16 m16 d16]), (64, .agg #[.bool b14, .slice ad14 n14 c14, .slice ae14 m14 d14]), (63, .bool true), (62, .bool true), (61, .int .i64 (qc (((rawZ nega1 xa1 4 : Int) : Rat) / ((rawZ negb1 xb1 4 : Int) : Rat)) (((rawZ nega2 xa2 4 : Int) : Rat) / ((rawZ negb2 xb2 4 : Int) : Rat)))), (60, .bool false), (10, .int .i64 (qc (((rawZ nega1 xa1 4 : Int) : Rat) / ((rawZ negb1 xb1 4 : Int) : Rat)) (((rawZ nega2 xa2 4 : Int) : Rat) / ((rawZ negb2 xb2 4 : Int) : Rat)))), (21, .int .i64 (qc (((rawZ nega1 xa1 4 : Int) : Rat) / ((rawZ negb1 xb1 4 : Int) : Rat)) (((rawZ nega2 xa2 4 : Int) : Rat) / ((rawZ negb2 xb2 4 : Int) : Rat)))), (20, .agg #[.bool b14, .slice ad14 n14 c14, .slice ae14 m14 d14]), (19, .agg #[.bool b12, .slice ad12 n12 c12, .slice ae12 m12 d12]), (9, .pointer (some ⟨g9, 0, none⟩)), (8, .pointer (some ⟨g8, 0, none⟩)), (7, .pointer (some ⟨g7, 0, none⟩)), (18, .agg #[.bool b16, .slice ad16 n16 c16, .slice ae16 m16 d16]), (16, .agg #[.bool b14, .slice ad14 n14 c14, .slice ae14 m14 d14]), (14, .agg #[.bool b12, .slice ad12 n12 c12, .slice ae12 m12 d12]), (12, .bool false), (11, .bool true), (5, .pointer (some ⟨g5, 0, none⟩)), (4, .pointer (some ⟨g4, 0, none⟩)), (3, .pointer (some ⟨g3, 0, none⟩)), (0, .agg #[.bool nega1, .slice aa1 na1 ca1, .bool negb1, .slice ab1 nb1 cb1]), (1, .agg #[.bool nega2, .slice aa2 na2 ca2, .bool negb2, .slice ab2 nb2 cb2]), (2, .agg #[.bool nega3, .slice aa3 na3 ca3, .bool negb3, .slice ab3 nb3 cb3])]) hF (r_assign (hF.at 0 rfl)) rfl rfl rfl rfl fun a hF => ?_
      refine E.nil ?_
      refine wp_ret ?_
      refine bodyPost_ret (res_tmp Try.results13 (hF.at 0 rfl)) hF.dfr ?_
      exact ⟨rfl, bel⟩
  · have bel : Below w.heap.size w w := Below.refl _ _
    refine E.enter (nt := 76) (L := [(0, .agg #[.bool nega1, .slice aa1 na1 ca1, .bool negb1, .slice ab1 nb1 cb1]), (1, .agg #[.bool nega2, .slice aa2 na2 ca2, .bool negb2, .slice ab2 nb2 cb2]), (2, .agg #[.bool nega3, .slice aa3 na3 ca3, .bool negb3, .slice ab3 nb3 cb3])]) Try.func13 rfl rfl rfl (args_cons (i := 0) rfl (args_cons (i := 1) rfl (args_cons (i := 2) rfl args_nil))) ?_
    intro a hF
    refine wp_seq ?_
    refine E.seq ?_
    obtain ⟨g3, w1, ge3, hr, bb, o3⟩ := own_box (P := Try.prog) (w := w) (cs := [.bool nega1, .slice aa1 na1 ca1, .bool negb1, .slice ab1 nb1 cb1]) (v := .agg #[.bool nega1, .slice aa1 na1 ca1, .bool negb1, .slice ab1 nb1 cb1]) 74 rfl (niB (niS (niB (niS ni0))))
    replace ge3 : w.heap.size ≤ g3 := by rw [← ge3]; exact bel.size
    refine E.opv hF (r_box (hF.at 0 rfl) hr) rfl rfl rfl rfl fun a hF => ?_
    clear hr
    replace ia2 := ia2.below bb
    replace ib2 := ib2.below bb
    replace ia3 := ia3.below bb
    replace ib3 := ib3.below bb
    replace ia1 := ia1.below bb
    replace ib1 := ib1.below bb
    replace bel := below_to bel bb
    clear bb
    obtain ⟨g4, w2, ge4, hr, bb, o4⟩ := own_box (P := Try.prog) (w := w1) (cs := [.bool nega2, .slice aa2 na2 ca2, .bool negb2, .slice ab2 nb2 cb2]) (v := .agg #[.bool nega2, .slice aa2 na2 ca2, .bool negb2, .slice ab2 nb2 cb2]) 74 rfl (niB (niS (niB (niS ni0))))
    have ne3_4 : g3 ≠ g4 := by rw [← ge4]; exact o3.ne_new
    replace ge4 : w.heap.size ≤ g4 := by rw [← ge4]; exact bel.size
    refine E.opv hF (r_box (hF.at 2 rfl) hr) rfl rfl rfl rfl fun a hF => ?_
    clear hr
    replace ia3 := ia3.below bb
    replace ib3 := ib3.below bb
    replace ia1 := ia1.below bb
    replace ib1 := ib1.below bb
    replace ia2 := ia2.below bb
    replace ib2 := ib2.below bb
    replace o3 := o3.below bb
    replace bel := below_to bel bb
    clear bb
    obtain ⟨g5, w3, ge5, hr, bb, o5⟩ := own_box (P := Try.prog) (w := w2) (cs := [.bool nega3, .slice aa3 na3 ca3, .bool negb3, .slice ab3 nb3 cb3]) (v := .agg #[.bool nega3, .slice aa3 na3 ca3, .bool negb3, .slice ab3 nb3 cb3]) 74 rfl (niB (niS (niB (niS ni0))))
    have ne3_5 : g3 ≠ g5 := by rw [← ge5]; exact o3.ne_new
    have ne4_5 : g4 ≠ g5 := by rw [← ge5]; exact o4.ne_new
    replace ge5 : w.heap.size ≤ g5 := by rw [← ge5]; exact bel.size
    refine E.opv hF (r_box (hF.at 4 rfl) hr) rfl rfl rfl rfl fun a hF => ?_
    clear hr
    replace ia1 := ia1.below bb
    replace ib1 := ib1.below bb
    replace ia2 := ia2.below bb
    replace ib2 := ib2.below bb
    replace ia3 := ia3.below bb
    replace ib3 := ib3.below bb
    replace o3 := o3.below bb
    replace o4 := o4.below bb
    replace bel := below_to bel bb
    clear bb
    refine E.opv hF (r_assign ev_c) rfl rfl rfl rfl fun a hF => ?_
    refine E.nil ?_
    refine wp_seq ?_
    refine wp_seq ?_
    refine E.seq ?_
    refine E.call hF (r_call Try.func45 en45.1 en45.2 map0) (awake5_any _) rfl rfl rfl rfl ?_
    rintro e w4 ⟨rfl, bb⟩
    refine ⟨_, rfl, ?_⟩
    intro a hF
    replace ia1 := ia1.below bb
    replace ib1 := ib1.below bb
    replace ia2 := ia2.below bb
    replace ib2 := ib2.below bb
    replace ia3 := ia3.below bb
    replace ib3 := ib3.below bb
    replace o3 := o3.below bb
    replace o4 := o4.below bb
    replace o5 := o5.below bb
    replace bel := below_to bel bb
    clear bb
    refine E.opv hF (r_un (hF.at 0 rfl) (bn_not _ false rfl)) rfl rfl rfl rfl fun a hF => ?_
    refine E.nil ?_
    refine wp_cond_false (hF.at 0 rfl) ?_
    refine wp_skip ?_
    refine E.norm ?_
    refine wp_seq ?_
    refine E.drawn 9 mixed hF [13, 14, 15, 16, 17, 18, 7, 8, 9] [(fun _ v => v = .agg #[.bool nega1, .slice aa1 na1 ca1, .bool negb1, .slice ab1 nb1 cb1]), (fun w v => Rq w v (((rawZ nega1 xa1 4 : Int) : Rat) / ((rawZ negb1 xb1 4 : Int) : Rat))), (fun _ v => v = .agg #[.bool nega2, .slice aa2 na2 ca2, .bool negb2, .slice ab2 nb2 cb2]), (fun w v => Rq w v (((rawZ nega2 xa2 4 : Int) : Rat) / ((rawZ negb2 xb2 4 : Int) : Rat))), (fun _ v => v = .agg #[.bool nega3, .slice aa3 na3 ca3, .bool negb3, .slice ab3 nb3 cb3]), (fun w v => Rq w v (((rawZ nega3 xa3 4 : Int) : Rat) / ((rawZ negb3 xb3 4 : Int) : Rat))), (fun w v => ∃ g, v = .pointer (some ⟨g, 0, none⟩) ∧ w4.heap.size ≤ g ∧ Own w g [.bool false, .slice none 0 0, .slice none 0 0]), (fun w v => ∃ g, v = .pointer (some ⟨g, 0, none⟩) ∧ w4.heap.size ≤ g ∧ Own w g [.bool false, .slice none 0 0, .slice none 0 0]), (fun w v => ∃ g, v = .pointer (some ⟨g, 0, none⟩) ∧ w4.heap.size ≤ g ∧ Own w g [.bool false, .slice none 0 0, .slice none 0 0])] [6, 7, 8] (by decide +kernel) (by decide +kernel) rfl rfl rfl ⟨(Mb.eq _), (fun _ _ _ h hb => h.below hb), (Mb.eq _), (fun _ _ _ h hb => h.below hb), (Mb.eq _), (fun _ _ _ h hb => h.below hb), (fun _ _ _ ⟨g, e, l, o⟩ hb => ⟨g, e, l, o.below hb⟩), (fun _ _ _ ⟨g, e, l, o⟩ hb => ⟨g, e, l, o.below hb⟩), (fun _ _ _ ⟨g, e, l, o⟩ hb => ⟨g, e, l, o.below hb⟩), trivial⟩ ⟨fun _ _ ⟨g, e, _, o⟩ => ⟨g, e, o.lt⟩, ⟨fun _ _ ⟨g, e, _, o⟩ => ⟨g, e, o.lt⟩, ⟨fun _ _ ⟨g, e, _, o⟩ => ⟨g, e, o.lt⟩, trivial⟩⟩⟩ ⟨?_, ?_, ?_, ?_, ?_, ?_, ?_, ?_, ?_, trivial⟩ ?_
    · intro a' w' hF' hb hd
      exact if_does (wanted_free rfl) (Does.vals (r_load (hF'.at 5 rfl) (ld_Raw5 (vs := [.bool nega1, .slice aa1 na1 ca1, .bool negb1, .slice ab1 nb1 cb1]) (o3.below hb) rfl rfl)) ⟨rfl, Below.refl _ _, (fun h => absurd h (by decide))⟩)
    · intro a' w' hF' hb hd
      have e13 : a'.tmps.getD 13 undef = .agg #[.bool nega1, .slice aa1 na1 ca1, .bool negb1, .slice ab1 nb1 cb1] := hd _ 13 (Array.mem_of_getElem? (i := 0) rfl) rfl rfl
      refine if_does (wanted_free rfl) (Does.calls (r_call Try.func46 en46.1 en46.2 (map2 e13 ev_c)) (Own5_any nega1 aa1 na1 ca1 xa1 negb1 ab1 nb1 cb1 xb1 4 _ (ia1.below hb) (ib1.below hb) (by omega)) ?_)
      rintro e w'' ⟨v', rfl, h', bb⟩
      exact ⟨_, rfl, h', bb, (fun h => absurd h (by decide))⟩
    · intro a' w' hF' hb hd
      exact if_does (wanted_free rfl) (Does.vals (r_load (hF'.at 4 rfl) (ld_Raw5 (vs := [.bool nega2, .slice aa2 na2 ca2, .bool negb2, .slice ab2 nb2 cb2]) (o4.below hb) rfl rfl)) ⟨rfl, Below.refl _ _, (fun h => absurd h (by decide))⟩)
    · intro a' w' hF' hb hd
      have e15 : a'.tmps.getD 15 undef = .agg #[.bool nega2, .slice aa2 na2 ca2, .bool negb2, .slice ab2 nb2 cb2] := hd _ 15 (Array.mem_of_getElem? (i := 0) rfl) rfl rfl
      refine if_does (wanted_free rfl) (Does.calls (r_call Try.func46 en46.1 en46.2 (map2 e15 ev_c)) (Own5_any nega2 aa2 na2 ca2 xa2 negb2 ab2 nb2 cb2 xb2 4 _ (ia2.below hb) (ib2.below hb) (by omega)) ?_)
      rintro e w'' ⟨v', rfl, h', bb⟩
      exact ⟨_, rfl, h', bb, (fun h => absurd h (by decide))⟩
    · intro a' w' hF' hb hd
      exact if_does (wanted_free rfl) (Does.vals (r_load (hF'.at 3 rfl) (ld_Raw5 (vs := [.bool nega3, .slice aa3 na3 ca3, .bool negb3, .slice ab3 nb3 cb3]) (o5.below hb) rfl rfl)) ⟨rfl, Below.refl _ _, (fun h => absurd h (by decide))⟩)
    · intro a' w' hF' hb hd
      have e17 : a'.tmps.getD 17 undef = .agg #[.bool nega3, .slice aa3 na3 ca3, .bool negb3, .slice ab3 nb3 cb3] := hd _ 17 (Array.mem_of_getElem? (i := 0) rfl) rfl rfl
      refine if_does (wanted_free rfl) (Does.calls (r_call Try.func46 en46.1 en46.2 (map2 e17 ev_c)) (Own5_any nega3 aa3 na3 ca3 xa3 negb3 ab3 nb3 cb3 xb3 4 _ (ia3.below hb) (ib3.below hb) (by omega)) ?_)
      rintro e w'' ⟨v', rfl, h', bb⟩
      exact ⟨_, rfl, h', bb, (fun h => absurd h (by decide))⟩
    · intro a' w' hF' hb hd
      obtain ⟨g, w2, ge, hr, bb, on⟩ := own_alloc (P := Try.prog) (w := w') (cs := [.bool false, .slice none 0 0, .slice none 0 0]) 76 ze_Rat rfl (niB (niS (niS ni0)))
      subst ge
      exact if_does (wanted_free rfl) (Does.vals (r_alloc hr) ⟨⟨_, rfl, hb.size, on⟩, bb, fun _ => rfl⟩)
    · intro a' w' hF' hb hd
      obtain ⟨g, w2, ge, hr, bb, on⟩ := own_alloc (P := Try.prog) (w := w') (cs := [.bool false, .slice none 0 0, .slice none 0 0]) 76 ze_Rat rfl (niB (niS (niS ni0)))
      subst ge
      exact if_does (wanted_free rfl) (Does.vals (r_alloc hr) ⟨⟨_, rfl, hb.size, on⟩, bb, fun _ => rfl⟩)
    · intro a' w' hF' hb hd
      obtain ⟨g, w2, ge, hr, bb, on⟩ := own_alloc (P := Try.prog) (w := w') (cs := [.bool false, .slice none 0 0, .slice none 0 0]) 76 ze_Rat rfl (niB (niS (niS ni0)))
      subst ge
      exact if_does (wanted_free rfl) (Does.vals (r_alloc hr) ⟨⟨_, rfl, hb.size, on⟩, bb, fun _ => rfl⟩)
    intro a w5 hF bb hall hne
    obtain ⟨vv6, e14, hh7⟩ : ∃ v, a.tmps.getD 14 undef = v ∧ Rq w5 v (((rawZ nega1 xa1 4 : Int) : Rat) / ((rawZ negb1 xb1 4 : Int) : Rat)) := ⟨_, rfl, hall 1 14 rfl⟩
    obtain ⟨vv8, e16, hh9⟩ : ∃ v, a.tmps.getD 16 undef = v ∧ Rq w5 v (((rawZ nega2 xa2 4 : Int) : Rat) / ((rawZ negb2 xb2 4 : Int) : Rat)) := ⟨_, rfl, hall 3 16 rfl⟩
    obtain ⟨vv10, e18, hh11⟩ : ∃ v, a.tmps.getD 18 undef = v ∧ Rq w5 v (((rawZ nega3 xa3 4 : Int) : Rat) / ((rawZ negb3 xb3 4 : Int) : Rat)) := ⟨_, rfl, hall 5 18 rfl⟩
    obtain ⟨g7, e7, ge7, o7⟩ : ∃ g, a.tmps.getD 7 undef = .pointer (some ⟨g, 0, none⟩) ∧ w4.heap.size ≤ g ∧ Own w5 g [.bool false, .slice none 0 0, .slice none 0 0] := hall 6 7 rfl
    obtain ⟨g8, e8, ge8, o8⟩ : ∃ g, a.tmps.getD 8 undef = .pointer (some ⟨g, 0, none⟩) ∧ w4.heap.size ≤ g ∧ Own w5 g [.bool false, .slice none 0 0, .slice none 0 0] := hall 7 8 rfl
    have ne7_8 : g7 ≠ g8 := by intro e; exact hne 6 7 7 8 rfl rfl (by decide) rfl rfl (by rw [e7, e8, e])
    obtain ⟨g9, e9, ge9, o9⟩ : ∃ g, a.tmps.getD 9 undef = .pointer (some ⟨g, 0, none⟩) ∧ w4.heap.size ≤ g ∧ Own w5 g [.bool false, .slice none 0 0, .slice none 0 0] := hall 8 9 rfl
    have ne7_9 : g7 ≠ g9 := by intro e; exact hne 6 8 7 9 rfl rfl (by decide) rfl rfl (by rw [e7, e9, e])
    have ne8_9 : g8 ≠ g9 := by intro e; exact hne 7 8 8 9 rfl rfl (by decide) rfl rfl (by rw [e8, e9, e])
    replace ge7 : w.heap.size ≤ g7 := Nat.le_trans bel.size ge7
    replace ge8 : w.heap.size ≤ g8 := Nat.le_trans bel.size ge8
    replace ge9 : w.heap.size ≤ g9 := Nat.le_trans bel.size ge9
    clear hall hne
    replace bel := below_to bel bb
    clear bb
    obtain ⟨b12, ad12, n12, c12, ae12, m12, d12, rfl, hn12, hd12⟩ := Rq.shape hh7
    have hf13 := Wc.abs hn12
    replace hF := hF.add e14
    clear e14
    obtain ⟨b14, ad14, n14, c14, ae14, m14, d14, rfl, hn14, hd14⟩ := Rq.shape hh9
    have hf15 := Wc.abs hn14
    replace hF := hF.add e16
    clear e16
    obtain ⟨b16, ad16, n16, c16, ae16, m16, d16, rfl, hn16, hd16⟩ := Rq.shape hh11
    have hf17 := Wc.abs hn16
    replace hF := hF.add e18
    clear e18
    replace hF := hF.add e7
    clear e7
    replace hF := hF.add e8
    clear e8
    replace hF := hF.add e9
    clear e9
    obtain ⟨w18, hr, tu, on⟩ := st_Rat (vs := [.bool b12, .slice ad12 n12 c12, .slice ae12 m12 d12]) o7 rfl rfl (ocB (ocS (ocS oc0))) (niB (niS (niS ni0))) (o := 0) rfl
    have kp := tu.keep o7
    refine E.st hF (r_store (hF.at 2 rfl) (hF.at 5 rfl) (hr _ rfl)) rfl rfl fun a hF => ?_
    clear hr
    replace hh11 := hh11.keep kp
    replace hn16 := hn16.keep kp
    replace hf17 := hf17.keep kp
    replace hd16 := hd16.keep kp
    replace hh9 := hh9.keep kp
    replace hn14 := hn14.keep kp
    replace hf15 := hf15.keep kp
    replace hd14 := hd14.keep kp
    replace hh7 := hh7.keep kp
    replace hn12 := hn12.keep kp
    replace hf13 := hf13.keep kp
    replace hd12 := hd12.keep kp
    replace o8 := tu.own o8 (Ne.symm ne7_8)
    replace o9 := tu.own o9 (Ne.symm ne7_9)
    replace bel := tu.below bel ge7
    clear tu kp
    replace o7 := on
    clear on
    obtain ⟨w19, hr, tu, on⟩ := st_Rat (vs := [.bool b14, .slice ad14 n14 c14, .slice ae14 m14 d14]) o8 rfl rfl (ocB (ocS (ocS oc0))) (niB (niS (niS ni0))) (o := 0) rfl
    have kp := tu.keep o8
    refine E.st hF (r_store (hF.at 1 rfl) (hF.at 4 rfl) (hr _ rfl)) rfl rfl fun a hF => ?_
    clear hr
    replace hh11 := hh11.keep kp
    replace hn16 := hn16.keep kp
    replace hf17 := hf17.keep kp
    replace hd16 := hd16.keep kp
    replace hf13 := hf13.keep kp
    replace hd12 := hd12.keep kp
    replace hh7 := hh7.keep kp
    replace hn12 := hn12.keep kp
    replace hh9 := hh9.keep kp
    replace hn14 := hn14.keep kp
    replace hf15 := hf15.keep kp
    replace hd14 := hd14.keep kp
    replace o7 := tu.own o7 ne7_8
    replace o9 := tu.own o9 (Ne.symm ne8_9)
    replace bel := tu.below bel ge8
    clear tu kp
    replace o8 := on
    clear on
    obtain ⟨w20, hr, tu, on⟩ := st_Rat (vs := [.bool b16, .slice ad16 n16 c16, .slice ae16 m16 d16]) o9 rfl rfl (ocB (ocS (ocS oc0))) (niB (niS (niS ni0))) (o := 0) rfl
    have kp := tu.keep o9
    refine E.st hF (r_store (hF.at 0 rfl) (hF.at 3 rfl) (hr _ rfl)) rfl rfl fun a hF => ?_
    clear hr
    replace hf13 := hf13.keep kp
    replace hd12 := hd12.keep kp
    replace hh7 := hh7.keep kp
    replace hn12 := hn12.keep kp
    replace hf15 := hf15.keep kp
    replace hd14 := hd14.keep kp
    replace hh9 := hh9.keep kp
    replace hn14 := hn14.keep kp
    replace hh11 := hh11.keep kp
    replace hn16 := hn16.keep kp
    replace hf17 := hf17.keep kp
    replace hd16 := hd16.keep kp
    replace o7 := tu.own o7 ne7_9
    replace o8 := tu.own o8 ne8_9
    replace bel := tu.below bel ge9
    clear tu kp
    replace o9 := on
    clear on
    refine E.nil ?_
    refine wp_seq ?_
    refine E.seq ?_
    refine E.opv hF (r_load (hF.at 2 rfl) (ld_Rat (vs := [.bool b12, .slice ad12 n12 c12, .slice ae12 m12 d12]) o7 rfl rfl)) rfl rfl rfl rfl fun a hF => ?_
    refine E.opv hF (r_load (hF.at 2 rfl) (ld_Rat (vs := [.bool b14, .slice ad14 n14 c14, .slice ae14 m14 d14]) o8 rfl rfl)) rfl rfl rfl rfl fun a hF => ?_
    refine E.call hF (r_call Try.func68 en68.1 en68.2 (map2 (hF.at 1 rfl) (hF.at 0 rfl))) (rCmp_any _ _ (((rawZ nega1 xa1 4 : Int) : Rat) / ((rawZ negb1 xb1 4 : Int) : Rat)) (((rawZ nega2 xa2 4 : Int) : Rat) / ((rawZ negb2 xb2 4 : Int) : Rat)) 4 _ hh7 hh9 ((own5_lim nega1 negb1 oka1 okb1 4 (by decide)).up _ (by omega)) ((own5_lim nega2 negb2 oka2 okb2 4 (by decide)).up _ (by omega)) (by omega)) rfl rfl rfl rfl ?_
    rintro e w21 ⟨rfl, bb⟩
    refine ⟨_, rfl, ?_⟩
    intro a hF
    replace hf13 := hf13.below bb
    replace hd12 := hd12.below bb
    replace hh7 := hh7.below bb
    replace hn12 := hn12.below bb
    replace hf15 := hf15.below bb
    replace hd14 := hd14.below bb
    replace hh9 := hh9.below bb
    replace hn14 := hn14.below bb
    replace hf17 := hf17.below bb
    replace hd16 := hd16.below bb
    replace hh11 := hh11.below bb
    replace hn16 := hn16.below bb
    replace o7 := o7.below bb
    replace o8 := o8.below bb
    replace o9 := o9.below bb
    replace bel := below_to bel bb
    clear bb
    refine E.opv hF (r_assign (hF.at 0 rfl)) rfl rfl rfl rfl fun a hF => ?_
    refine E.nil ?_
    refine wp_seq ?_
    refine wp_seq ?_
    refine E.drawn 39 mixed hF [22, 23, 24, 25, 26, 27, 28, 29, 30, 31, 32, 33, 34, 35, 36, 37, 38, 39, 40, 41, 42, 43, 44, 45, 46, 47, 48, 49, 50, 51, 52, 53, 54, 55, 56, 57, 58, 59, 60] [(fun _ v => v = .agg #[.bool b14, .slice ad14 n14 c14, .slice ae14 m14 d14]), (fun _ v => v = .agg #[.bool b12, .slice ad12 n12 c12, .slice ae12 m12 d12]), (fun _ v => v = .int .i64 (qc (((rawZ nega2 xa2 4 : Int) : Rat) / ((rawZ negb2 xb2 4 : Int) : Rat)) (((rawZ nega1 xa1 4 : Int) : Rat) / ((rawZ negb1 xb1 4 : Int) : Rat)))), (fun _ v => v = .int .i64 (qc (((rawZ nega1 xa1 4 : Int) : Rat) / ((rawZ negb1 xb1 4 : Int) : Rat)) (((rawZ nega2 xa2 4 : Int) : Rat) / ((rawZ negb2 xb2 4 : Int) : Rat)))), (fun _ v => v = .int .i64 (-(qc (((rawZ nega1 xa1 4 : Int) : Rat) / ((rawZ negb1 xb1 4 : Int) : Rat)) (((rawZ nega2 xa2 4 : Int) : Rat) / ((rawZ negb2 xb2 4 : Int) : Rat))))), (fun _ v => v = .bool false), (fun _ v => v = .bool false), (fun _ v => v = .agg #[.bool b12, .slice ad12 n12 c12, .slice ae12 m12 d12]), (fun _ v => v = .agg #[.bool b16, .slice ad16 n16 c16, .slice ae16 m16 d16]), (fun w v => Rq w v ((((rawZ nega1 xa1 4 : Int) : Rat) / ((rawZ negb1 xb1 4 : Int) : Rat)) + (((rawZ nega3 xa3 4 : Int) : Rat) / ((rawZ negb3 xb3 4 : Int) : Rat)))), (fun _ v => v = .agg #[.bool b14, .slice ad14 n14 c14, .slice ae14 m14 d14]), (fun _ v => v = .agg #[.bool b16, .slice ad16 n16 c16, .slice ae16 m16 d16]), (fun w v => Rq w v ((((rawZ nega2 xa2 4 : Int) : Rat) / ((rawZ negb2 xb2 4 : Int) : Rat)) + (((rawZ nega3 xa3 4 : Int) : Rat) / ((rawZ negb3 xb3 4 : Int) : Rat)))), (fun _ v => v = .int .i64 (qc ((((rawZ nega1 xa1 4 : Int) : Rat) / ((rawZ negb1 xb1 4 : Int) : Rat)) + (((rawZ nega3 xa3 4 : Int) : Rat) / ((rawZ negb3 xb3 4 : Int) : Rat))) ((((rawZ nega2 xa2 4 : Int) : Rat) / ((rawZ negb2 xb2 4 : Int) : Rat)) + (((rawZ nega3 xa3 4 : Int) : Rat) / ((rawZ negb3 xb3 4 : Int) : Rat))))), (fun _ v => v = .int .i64 (qc (((rawZ nega1 xa1 4 : Int) : Rat) / ((rawZ negb1 xb1 4 : Int) : Rat)) (((rawZ nega2 xa2 4 : Int) : Rat) / ((rawZ negb2 xb2 4 : Int) : Rat)))), (fun _ v => v = .bool false), (fun _ v => v = .bool false), (fun _ v => v = .bool false), (fun _ v => v = .agg #[.bool b12, .slice ad12 n12 c12, .slice ae12 m12 d12]), (fun _ v => v = .agg #[.bool b16, .slice ad16 n16 c16, .slice ae16 m16 d16]), (fun w v => Rq w v ((((rawZ nega1 xa1 4 : Int) : Rat) / ((rawZ negb1 xb1 4 : Int) : Rat)) * (((rawZ nega3 xa3 4 : Int) : Rat) / ((rawZ negb3 xb3 4 : Int) : Rat)))), (fun _ v => v = .agg #[.bool b14, .slice ad14 n14 c14, .slice ae14 m14 d14]), (fun _ v => v = .agg #[.bool b16, .slice ad16 n16 c16, .slice ae16 m16 d16]), (fun w v => Rq w v ((((rawZ nega2 xa2 4 : Int) : Rat) / ((rawZ negb2 xb2 4 : Int) : Rat)) * (((rawZ nega3 xa3 4 : Int) : Rat) / ((rawZ negb3 xb3 4 : Int) : Rat)))), (fun _ v => v = .int .i64 (qc ((((rawZ nega1 xa1 4 : Int) : Rat) / ((rawZ negb1 xb1 4 : Int) : Rat)) * (((rawZ nega3 xa3 4 : Int) : Rat) / ((rawZ negb3 xb3 4 : Int) : Rat))) ((((rawZ nega2 xa2 4 : Int) : Rat) / ((rawZ negb2 xb2 4 : Int) : Rat)) * (((rawZ nega3 xa3 4 : Int) : Rat) / ((rawZ negb3 xb3 4 : Int) : Rat))))), (fun _ v => v = .int .i64 (qc (((rawZ nega1 xa1 4 : Int) : Rat) / ((rawZ negb1 xb1 4 : Int) : Rat)) (((rawZ nega2 xa2 4 : Int) : Rat) / ((rawZ negb2 xb2 4 : Int) : Rat)))), (fun _ v => v = .agg #[.bool b16, .slice ad16 n16 c16, .slice ae16 m16 d16]), (fun _ v => v = .int .i64 (sz (Rat.num (((rawZ nega3 xa3 4 : Int) : Rat) / ((rawZ negb3 xb3 4 : Int) : Rat))))), (fun _ v => v = .int .i64 ((qc (((rawZ nega1 xa1 4 : Int) : Rat) / ((rawZ negb1 xb1 4 : Int) : Rat)) (((rawZ nega2 xa2 4 : Int) : Rat) / ((rawZ negb2 xb2 4 : Int) : Rat))) * (sz (Rat.num (((rawZ nega3 xa3 4 : Int) : Rat) / ((rawZ negb3 xb3 4 : Int) : Rat)))))), (fun _ v => v = .bool false), (fun _ v => v = .bool false), (fun _ v => v = .bool false), (fun _ v => v = .agg #[.bool b12, .slice ad12 n12 c12, .slice ae12 m12 d12]), (fun _ v => v = .agg #[.bool b14, .slice ad14 n14 c14, .slice ae14 m14 d14]), (fun w v => Rq w v ((((rawZ nega1 xa1 4 : Int) : Rat) / ((rawZ negb1 xb1 4 : Int) : Rat)) - (((rawZ nega2 xa2 4 : Int) : Rat) / ((rawZ negb2 xb2 4 : Int) : Rat)))), (fun _ v => v = .int .i64 (sz (Rat.num ((((rawZ nega1 xa1 4 : Int) : Rat) / ((rawZ negb1 xb1 4 : Int) : Rat)) - (((rawZ nega2 xa2 4 : Int) : Rat) / ((rawZ negb2 xb2 4 : Int) : Rat)))))), (fun _ v => v = .int .i64 (qc (((rawZ nega1 xa1 4 : Int) : Rat) / ((rawZ negb1 xb1 4 : Int) : Rat)) (((rawZ nega2 xa2 4 : Int) : Rat) / ((rawZ negb2 xb2 4 : Int) : Rat)))), (fun _ v => v = .bool false), (fun _ v => v = .bool false)] [] (by decide +kernel) (by decide +kernel) rfl rfl rfl ⟨(Mb.eq _), (Mb.eq _), (Mb.eq _), (Mb.eq _), (Mb.eq _), (Mb.eq _), (Mb.eq _), (Mb.eq _), (Mb.eq _), (fun _ _ _ h hb => h.below hb), (Mb.eq _), (Mb.eq _), (fun _ _ _ h hb => h.below hb), (Mb.eq _), (Mb.eq _), (Mb.eq _), (Mb.eq _), (Mb.eq _), (Mb.eq _), (Mb.eq _), (fun _ _ _ h hb => h.below hb), (Mb.eq _), (Mb.eq _), (fun _ _ _ h hb => h.below hb), (Mb.eq _), (Mb.eq _), (Mb.eq _), (Mb.eq _), (Mb.eq _), (Mb.eq _), (Mb.eq _), (Mb.eq _), (Mb.eq _), (Mb.eq _), (fun _ _ _ h hb => h.below hb), (Mb.eq _), (Mb.eq _), (Mb.eq _), (Mb.eq _), trivial⟩ trivial ⟨?_, ?_, ?_, ?_, ?_, ?_, ?_, ?_, ?_, ?_, ?_, ?_, ?_, ?_, ?_, ?_, ?_, ?_, ?_, ?_, ?_, ?_, ?_, ?_, ?_, ?_, ?_, ?_, ?_, ?_, ?_, ?_, ?_, ?_, ?_, ?_, ?_, ?_, ?_, trivial⟩ ?_
    · intro a' w' hF' hb hd
      exact if_does (wanted_free rfl) (Does.vals (r_load (hF'.at 5 rfl) (ld_Rat (vs := [.bool b14, .slice ad14 n14 c14, .slice ae14 m14 d14]) (o8.below hb) rfl rfl)) ⟨rfl, Below.refl _ _, (fun h => absurd h (by decide))⟩)
    · intro a' w' hF' hb hd
      exact if_does (wanted_free rfl) (Does.vals (r_load (hF'.at 6 rfl) (ld_Rat (vs := [.bool b12, .slice ad12 n12 c12, .slice ae12 m12 d12]) (o7.below hb) rfl rfl)) ⟨rfl, Below.refl _ _, (fun h => absurd h (by decide))⟩)
    · intro a' w' hF' hb hd
      have e22 : a'.tmps.getD 22 undef = .agg #[.bool b14, .slice ad14 n14 c14, .slice ae14 m14 d14] := hd _ 22 (Array.mem_of_getElem? (i := 0) rfl) rfl rfl
      have e23 : a'.tmps.getD 23 undef = .agg #[.bool b12, .slice ad12 n12 c12, .slice ae12 m12 d12] := hd _ 23 (Array.mem_of_getElem? (i := 1) rfl) rfl rfl
      refine if_does (wanted_free rfl) (Does.calls (r_call Try.func68 en68.1 en68.2 (map2 e22 e23)) (rCmp_any _ _ (((rawZ nega2 xa2 4 : Int) : Rat) / ((rawZ negb2 xb2 4 : Int) : Rat)) (((rawZ nega1 xa1 4 : Int) : Rat) / ((rawZ negb1 xb1 4 : Int) : Rat)) 4 _ (hh9.below hb) (hh7.below hb) ((own5_lim nega2 negb2 oka2 okb2 4 (by decide)).up _ (by omega)) ((own5_lim nega1 negb1 oka1 okb1 4 (by decide)).up _ (by omega)) (by omega)) ?_)
      rintro e w'' ⟨rfl, bb⟩
      exact ⟨_, rfl, rfl, bb, (fun h => absurd h (by decide))⟩
    · intro a' w' hF' hb hd
      exact if_does (wanted_free rfl) (Does.vals (r_move (hF'.at 0 rfl)) ⟨rfl, Below.refl _ _, (fun h => absurd h (by decide))⟩)
    · intro a' w' hF' hb hd
      have e25 : a'.tmps.getD 25 undef = .int .i64 (qc (((rawZ nega1 xa1 4 : Int) : Rat) / ((rawZ negb1 xb1 4 : Int) : Rat)) (((rawZ nega2 xa2 4 : Int) : Rat) / ((rawZ negb2 xb2 4 : Int) : Rat))) := hd _ 25 (Array.mem_of_getElem? (i := 0) rfl) rfl rfl
      exact if_does (wanted_free rfl) (Does.vals (r_un e25 (bn_neg (neg_rng (qc_bd _ _)).1 (neg_rng (qc_bd _ _)).2)) ⟨rfl, Below.refl _ _, (fun h => absurd h (by decide))⟩)
    · intro a' w' hF' hb hd
      have e24 : a'.tmps.getD 24 undef = .int .i64 (qc (((rawZ nega2 xa2 4 : Int) : Rat) / ((rawZ negb2 xb2 4 : Int) : Rat)) (((rawZ nega1 xa1 4 : Int) : Rat) / ((rawZ negb1 xb1 4 : Int) : Rat))) := hd _ 24 (Array.mem_of_getElem? (i := 0) rfl) rfl rfl
      have e26 : a'.tmps.getD 26 undef = .int .i64 (-(qc (((rawZ nega1 xa1 4 : Int) : Rat) / ((rawZ negb1 xb1 4 : Int) : Rat)) (((rawZ nega2 xa2 4 : Int) : Rat) / ((rawZ negb2 xb2 4 : Int) : Rat)))) := hd _ 26 (Array.mem_of_getElem? (i := 1) rfl) rfl rfl
      exact if_does (wanted_free rfl) (Does.vals (r_bin e24 e26 eg_scalar (bi_int (ic_neq (c := false) (nex (qc_symm _ _))) (by simp))) ⟨rfl, Below.refl _ _, (fun h => absurd h (by decide))⟩)
    · intro a' w' hF' hb hd
      have e27 : a'.tmps.getD 27 undef = .bool false := hd _ 27 (Array.mem_of_getElem? (i := 0) rfl) rfl rfl
      exact if_does (wanted_free rfl) (Does.vals (r_move e27) ⟨rfl, Below.refl _ _, (fun h => absurd h (by decide))⟩)
    · intro a' w' hF' hb hd
      have e28 : a'.tmps.getD 28 undef = .bool false := hd _ 28 (Array.mem_of_getElem? (i := 0) rfl) rfl rfl
      exact if_does (wanted_by rfl rfl e28 rfl) (Does.vals (r_load (hF'.at 6 rfl) (ld_Rat (vs := [.bool b12, .slice ad12 n12 c12, .slice ae12 m12 d12]) (o7.below hb) rfl rfl)) ⟨rfl, Below.refl _ _, (fun h => absurd h (by decide))⟩)
    · intro a' w' hF' hb hd
      have e28 : a'.tmps.getD 28 undef = .bool false := hd _ 28 (Array.mem_of_getElem? (i := 0) rfl) rfl rfl
      exact if_does (wanted_by rfl rfl e28 rfl) (Does.vals (r_load (hF'.at 4 rfl) (ld_Rat (vs := [.bool b16, .slice ad16 n16 c16, .slice ae16 m16 d16]) (o9.below hb) rfl rfl)) ⟨rfl, Below.refl _ _, (fun h => absurd h (by decide))⟩)
    · intro a' w' hF' hb hd
      have e28 : a'.tmps.getD 28 undef = .bool false := hd _ 28 (Array.mem_of_getElem? (i := 2) rfl) rfl rfl
      have e29 : a'.tmps.getD 29 undef = .agg #[.bool b12, .slice ad12 n12 c12, .slice ae12 m12 d12] := hd _ 29 (Array.mem_of_getElem? (i := 0) rfl) rfl rfl
      have e30 : a'.tmps.getD 30 undef = .agg #[.bool b16, .slice ad16 n16 c16, .slice ae16 m16 d16] := hd _ 30 (Array.mem_of_getElem? (i := 1) rfl) rfl rfl
      refine if_does (wanted_by rfl rfl e28 rfl) (Does.calls (r_call Try.func60 en60.1 en60.2 (map2 e29 e30)) (rAdd_any _ _ (((rawZ nega1 xa1 4 : Int) : Rat) / ((rawZ negb1 xb1 4 : Int) : Rat)) (((rawZ nega3 xa3 4 : Int) : Rat) / ((rawZ negb3 xb3 4 : Int) : Rat)) 4 _ (hh7.below hb) (hh11.below hb) ((own5_lim nega1 negb1 oka1 okb1 4 (by decide)).up _ (by omega)) ((own5_lim nega3 negb3 oka3 okb3 4 (by decide)).up _ (by omega)) (by omega)) ?_)
      rintro e w'' ⟨v', rfl, h', bb⟩
      exact ⟨_, rfl, h', bb, (fun h => absurd h (by decide))⟩
    · intro a' w' hF' hb hd
      have e28 : a'.tmps.getD 28 undef = .bool false := hd _ 28 (Array.mem_of_getElem? (i := 0) rfl) rfl rfl
      exact if_does (wanted_by rfl rfl e28 rfl) (Does.vals (r_load (hF'.at 5 rfl) (ld_Rat (vs := [.bool b14, .slice ad14 n14 c14, .slice ae14 m14 d14]) (o8.below hb) rfl rfl)) ⟨rfl, Below.refl _ _, (fun h => absurd h (by decide))⟩)
    · intro a' w' hF' hb hd
      have e28 : a'.tmps.getD 28 undef = .bool false := hd _ 28 (Array.mem_of_getElem? (i := 0) rfl) rfl rfl
      exact if_does (wanted_by rfl rfl e28 rfl) (Does.vals (r_load (hF'.at 4 rfl) (ld_Rat (vs := [.bool b16, .slice ad16 n16 c16, .slice ae16 m16 d16]) (o9.below hb) rfl rfl)) ⟨rfl, Below.refl _ _, (fun h => absurd h (by decide))⟩)
    · intro a' w' hF' hb hd
      have e28 : a'.tmps.getD 28 undef = .bool false := hd _ 28 (Array.mem_of_getElem? (i := 3) rfl) rfl rfl
      have e32 : a'.tmps.getD 32 undef = .agg #[.bool b14, .slice ad14 n14 c14, .slice ae14 m14 d14] := hd _ 32 (Array.mem_of_getElem? (i := 0) rfl) rfl rfl
      have e33 : a'.tmps.getD 33 undef = .agg #[.bool b16, .slice ad16 n16 c16, .slice ae16 m16 d16] := hd _ 33 (Array.mem_of_getElem? (i := 1) rfl) rfl rfl
      refine if_does (wanted_by rfl rfl e28 rfl) (Does.calls (r_call Try.func60 en60.1 en60.2 (map2 e32 e33)) (rAdd_any _ _ (((rawZ nega2 xa2 4 : Int) : Rat) / ((rawZ negb2 xb2 4 : Int) : Rat)) (((rawZ nega3 xa3 4 : Int) : Rat) / ((rawZ negb3 xb3 4 : Int) : Rat)) 4 _ (hh9.below hb) (hh11.below hb) ((own5_lim nega2 negb2 oka2 okb2 4 (by decide)).up _ (by omega)) ((own5_lim nega3 negb3 oka3 okb3 4 (by decide)).up _ (by omega)) (by omega)) ?_)
      rintro e w'' ⟨v', rfl, h', bb⟩
      exact ⟨_, rfl, h', bb, (fun h => absurd h (by decide))⟩
    · intro a' w' hF' hb hd
      have e28 : a'.tmps.getD 28 undef = .bool false := hd _ 28 (Array.mem_of_getElem? (i := 3) rfl) rfl rfl
      obtain ⟨v31_0, e31, h31_1⟩ : ∃ v, a'.tmps.getD 31 undef = v ∧ Rq w' v ((((rawZ nega1 xa1 4 : Int) : Rat) / ((rawZ negb1 xb1 4 : Int) : Rat)) + (((rawZ nega3 xa3 4 : Int) : Rat) / ((rawZ negb3 xb3 4 : Int) : Rat))) := ⟨_, rfl, hd _ 31 (Array.mem_of_getElem? (i := 0) rfl) rfl rfl⟩
      obtain ⟨v34_0, e34, h34_1⟩ : ∃ v, a'.tmps.getD 34 undef = v ∧ Rq w' v ((((rawZ nega2 xa2 4 : Int) : Rat) / ((rawZ negb2 xb2 4 : Int) : Rat)) + (((rawZ nega3 xa3 4 : Int) : Rat) / ((rawZ negb3 xb3 4 : Int) : Rat))) := ⟨_, rfl, hd _ 34 (Array.mem_of_getElem? (i := 1) rfl) rfl rfl⟩
      refine if_does (wanted_by rfl rfl e28 rfl) (Does.calls (r_call Try.func68 en68.1 en68.2 (map2 e31 e34)) (rCmp_any _ _ ((((rawZ nega1 xa1 4 : Int) : Rat) / ((rawZ negb1 xb1 4 : Int) : Rat)) + (((rawZ nega3 xa3 4 : Int) : Rat) / ((rawZ negb3 xb3 4 : Int) : Rat))) ((((rawZ nega2 xa2 4 : Int) : Rat) / ((rawZ negb2 xb2 4 : Int) : Rat)) + (((rawZ nega3 xa3 4 : Int) : Rat) / ((rawZ negb3 xb3 4 : Int) : Rat))) (4 + 4 + 1) _ h31_1 h34_1 ((rlim_add (own5_lim nega1 negb1 oka1 okb1 4 (by decide)) (own5_lim nega3 negb3 oka3 okb3 4 (by decide))).up _ (by omega)) ((rlim_add (own5_lim nega2 negb2 oka2 okb2 4 (by decide)) (own5_lim nega3 negb3 oka3 okb3 4 (by decide))).up _ (by omega)) (by omega)) ?_)
      rintro e w'' ⟨rfl, bb⟩
      exact ⟨_, rfl, rfl, bb, (fun h => absurd h (by decide))⟩
    · intro a' w' hF' hb hd
      have e28 : a'.tmps.getD 28 undef = .bool false := hd _ 28 (Array.mem_of_getElem? (i := 0) rfl) rfl rfl
      exact if_does (wanted_by rfl rfl e28 rfl) (Does.vals (r_move (hF'.at 0 rfl)) ⟨rfl, Below.refl _ _, (fun h => absurd h (by decide))⟩)
    · intro a' w' hF' hb hd
      have e28 : a'.tmps.getD 28 undef = .bool false := hd _ 28 (Array.mem_of_getElem? (i := 2) rfl) rfl rfl
      have e35 : a'.tmps.getD 35 undef = .int .i64 (qc ((((rawZ nega1 xa1 4 : Int) : Rat) / ((rawZ negb1 xb1 4 : Int) : Rat)) + (((rawZ nega3 xa3 4 : Int) : Rat) / ((rawZ negb3 xb3 4 : Int) : Rat))) ((((rawZ nega2 xa2 4 : Int) : Rat) / ((rawZ negb2 xb2 4 : Int) : Rat)) + (((rawZ nega3 xa3 4 : Int) : Rat) / ((rawZ negb3 xb3 4 : Int) : Rat)))) := hd _ 35 (Array.mem_of_getElem? (i := 0) rfl) rfl rfl
      have e36 : a'.tmps.getD 36 undef = .int .i64 (qc (((rawZ nega1 xa1 4 : Int) : Rat) / ((rawZ negb1 xb1 4 : Int) : Rat)) (((rawZ nega2 xa2 4 : Int) : Rat) / ((rawZ negb2 xb2 4 : Int) : Rat))) := hd _ 36 (Array.mem_of_getElem? (i := 1) rfl) rfl rfl
      exact if_does (wanted_by rfl rfl e28 rfl) (Does.vals (r_bin e35 e36 eg_scalar (bi_int (ic_neq (c := false) (nex (qc_add _ _ _))) (by simp))) ⟨rfl, Below.refl _ _, (fun h => absurd h (by decide))⟩)
    · intro a' w' hF' hb hd
      have e28 : a'.tmps.getD 28 undef = .bool false := hd _ 28 (Array.mem_of_getElem? (i := 0) rfl) rfl rfl
      have e37 : a'.tmps.getD 37 undef = .bool false := hd _ 37 (Array.mem_of_getElem? (i := 1) rfl) rfl rfl
      exact if_does (wanted_free rfl) (Does.vals (r_pick_f e28 e37) ⟨rfl, Below.refl _ _, (fun h => absurd h (by decide))⟩)
    · intro a' w' hF' hb hd
      have e38 : a'.tmps.getD 38 undef = .bool false := hd _ 38 (Array.mem_of_getElem? (i := 0) rfl) rfl rfl
      exact if_does (wanted_free rfl) (Does.vals (r_move e38) ⟨rfl, Below.refl _ _, (fun h => absurd h (by decide))⟩)
    · intro a' w' hF' hb hd
      have e39 : a'.tmps.getD 39 undef = .bool false := hd _ 39 (Array.mem_of_getElem? (i := 0) rfl) rfl rfl
      exact if_does (wanted_by rfl rfl e39 rfl) (Does.vals (r_load (hF'.at 6 rfl) (ld_Rat (vs := [.bool b12, .slice ad12 n12 c12, .slice ae12 m12 d12]) (o7.below hb) rfl rfl)) ⟨rfl, Below.refl _ _, (fun h => absurd h (by decide))⟩)
    · intro a' w' hF' hb hd
      have e39 : a'.tmps.getD 39 undef = .bool false := hd _ 39 (Array.mem_of_getElem? (i := 0) rfl) rfl rfl
      exact if_does (wanted_by rfl rfl e39 rfl) (Does.vals (r_load (hF'.at 4 rfl) (ld_Rat (vs := [.bool b16, .slice ad16 n16 c16, .slice ae16 m16 d16]) (o9.below hb) rfl rfl)) ⟨rfl, Below.refl _ _, (fun h => absurd h (by decide))⟩)
    · intro a' w' hF' hb hd
      have e39 : a'.tmps.getD 39 undef = .bool false := hd _ 39 (Array.mem_of_getElem? (i := 2) rfl) rfl rfl
      have e40 : a'.tmps.getD 40 undef = .agg #[.bool b12, .slice ad12 n12 c12, .slice ae12 m12 d12] := hd _ 40 (Array.mem_of_getElem? (i := 0) rfl) rfl rfl
      have e41 : a'.tmps.getD 41 undef = .agg #[.bool b16, .slice ad16 n16 c16, .slice ae16 m16 d16] := hd _ 41 (Array.mem_of_getElem? (i := 1) rfl) rfl rfl
      refine if_does (wanted_by rfl rfl e39 rfl) (Does.calls (r_call Try.func64 en64.1 en64.2 (map2 e40 e41)) (rMul_any _ _ (((rawZ nega1 xa1 4 : Int) : Rat) / ((rawZ negb1 xb1 4 : Int) : Rat)) (((rawZ nega3 xa3 4 : Int) : Rat) / ((rawZ negb3 xb3 4 : Int) : Rat)) 4 _ (hh7.below hb) (hh11.below hb) ((own5_lim nega1 negb1 oka1 okb1 4 (by decide)).up _ (by omega)) ((own5_lim nega3 negb3 oka3 okb3 4 (by decide)).up _ (by omega)) (by omega)) ?_)
      rintro e w'' ⟨v', rfl, h', bb⟩
      exact ⟨_, rfl, h', bb, (fun h => absurd h (by decide))⟩
    · intro a' w' hF' hb hd
      have e39 : a'.tmps.getD 39 undef = .bool false := hd _ 39 (Array.mem_of_getElem? (i := 0) rfl) rfl rfl
      exact if_does (wanted_by rfl rfl e39 rfl) (Does.vals (r_load (hF'.at 5 rfl) (ld_Rat (vs := [.bool b14, .slice ad14 n14 c14, .slice ae14 m14 d14]) (o8.below hb) rfl rfl)) ⟨rfl, Below.refl _ _, (fun h => absurd h (by decide))⟩)
    · intro a' w' hF' hb hd
      have e39 : a'.tmps.getD 39 undef = .bool false := hd _ 39 (Array.mem_of_getElem? (i := 0) rfl) rfl rfl
      exact if_does (wanted_by rfl rfl e39 rfl) (Does.vals (r_load (hF'.at 4 rfl) (ld_Rat (vs := [.bool b16, .slice ad16 n16 c16, .slice ae16 m16 d16]) (o9.below hb) rfl rfl)) ⟨rfl, Below.refl _ _, (fun h => absurd h (by decide))⟩)
    · intro a' w' hF' hb hd
      have e39 : a'.tmps.getD 39 undef = .bool false := hd _ 39 (Array.mem_of_getElem? (i := 3) rfl) rfl rfl
      have e43 : a'.tmps.getD 43 undef = .agg #[.bool b14, .slice ad14 n14 c14, .slice ae14 m14 d14] := hd _ 43 (Array.mem_of_getElem? (i := 0) rfl) rfl rfl
      have e44 : a'.tmps.getD 44 undef = .agg #[.bool b16, .slice ad16 n16 c16, .slice ae16 m16 d16] := hd _ 44 (Array.mem_of_getElem? (i := 1) rfl) rfl rfl
      refine if_does (wanted_by rfl rfl e39 rfl) (Does.calls (r_call Try.func64 en64.1 en64.2 (map2 e43 e44)) (rMul_any _ _ (((rawZ nega2 xa2 4 : Int) : Rat) / ((rawZ negb2 xb2 4 : Int) : Rat)) (((rawZ nega3 xa3 4 : Int) : Rat) / ((rawZ negb3 xb3 4 : Int) : Rat)) 4 _ (hh9.below hb) (hh11.below hb) ((own5_lim nega2 negb2 oka2 okb2 4 (by decide)).up _ (by omega)) ((own5_lim nega3 negb3 oka3 okb3 4 (by decide)).up _ (by omega)) (by omega)) ?_)
      rintro e w'' ⟨v', rfl, h', bb⟩
      exact ⟨_, rfl, h', bb, (fun h => absurd h (by decide))⟩
    · intro a' w' hF' hb hd
      have e39 : a'.tmps.getD 39 undef = .bool false := hd _ 39 (Array.mem_of_getElem? (i := 3) rfl) rfl rfl
      obtain ⟨v42_0, e42, h42_1⟩ : ∃ v, a'.tmps.getD 42 undef = v ∧ Rq w' v ((((rawZ nega1 xa1 4 : Int) : Rat) / ((rawZ negb1 xb1 4 : Int) : Rat)) * (((rawZ nega3 xa3 4 : Int) : Rat) / ((rawZ negb3 xb3 4 : Int) : Rat))) := ⟨_, rfl, hd _ 42 (Array.mem_of_getElem? (i := 0) rfl) rfl rfl⟩
      obtain ⟨v45_0, e45, h45_1⟩ : ∃ v, a'.tmps.getD 45 undef = v ∧ Rq w' v ((((rawZ nega2 xa2 4 : Int) : Rat) / ((rawZ negb2 xb2 4 : Int) : Rat)) * (((rawZ nega3 xa3 4 : Int) : Rat) / ((rawZ negb3 xb3 4 : Int) : Rat))) := ⟨_, rfl, hd _ 45 (Array.mem_of_getElem? (i := 1) rfl) rfl rfl⟩
      refine if_does (wanted_by rfl rfl e39 rfl) (Does.calls (r_call Try.func68 en68.1 en68.2 (map2 e42 e45)) (rCmp_any _ _ ((((rawZ nega1 xa1 4 : Int) : Rat) / ((rawZ negb1 xb1 4 : Int) : Rat)) * (((rawZ nega3 xa3 4 : Int) : Rat) / ((rawZ negb3 xb3 4 : Int) : Rat))) ((((rawZ nega2 xa2 4 : Int) : Rat) / ((rawZ negb2 xb2 4 : Int) : Rat)) * (((rawZ nega3 xa3 4 : Int) : Rat) / ((rawZ negb3 xb3 4 : Int) : Rat))) (4 + 4) _ h42_1 h45_1 ((rlim_mul (own5_lim nega1 negb1 oka1 okb1 4 (by decide)) (own5_lim nega3 negb3 oka3 okb3 4 (by decide))).up _ (by omega)) ((rlim_mul (own5_lim nega2 negb2 oka2 okb2 4 (by decide)) (own5_lim nega3 negb3 oka3 okb3 4 (by decide))).up _ (by omega)) (by omega)) ?_)
      rintro e w'' ⟨rfl, bb⟩
      exact ⟨_, rfl, rfl, bb, (fun h => absurd h (by decide))⟩
    · intro a' w' hF' hb hd
      have e39 : a'.tmps.getD 39 undef = .bool false := hd _ 39 (Array.mem_of_getElem? (i := 0) rfl) rfl rfl
      exact if_does (wanted_by rfl rfl e39 rfl) (Does.vals (r_move (hF'.at 0 rfl)) ⟨rfl, Below.refl _ _, (fun h => absurd h (by decide))⟩)
    · intro a' w' hF' hb hd
      have e39 : a'.tmps.getD 39 undef = .bool false := hd _ 39 (Array.mem_of_getElem? (i := 0) rfl) rfl rfl
      exact if_does (wanted_by rfl rfl e39 rfl) (Does.vals (r_load (hF'.at 4 rfl) (ld_Rat (vs := [.bool b16, .slice ad16 n16 c16, .slice ae16 m16 d16]) (o9.below hb) rfl rfl)) ⟨rfl, Below.refl _ _, (fun h => absurd h (by decide))⟩)
    · intro a' w' hF' hb hd
      have e39 : a'.tmps.getD 39 undef = .bool false := hd _ 39 (Array.mem_of_getElem? (i := 2) rfl) rfl rfl
      have e48 : a'.tmps.getD 48 undef = .agg #[.bool b16, .slice ad16 n16 c16, .slice ae16 m16 d16] := hd _ 48 (Array.mem_of_getElem? (i := 0) rfl) rfl rfl
      refine if_does (wanted_by rfl rfl e39 rfl) (Does.calls (r_call Try.func58 en58.1 en58.2 (map1 e48)) (rsgn_any _ (((rawZ nega3 xa3 4 : Int) : Rat) / ((rawZ negb3 xb3 4 : Int) : Rat)) _ (hh11.below hb)) ?_)
      rintro e w'' ⟨rfl, bb⟩
      exact ⟨_, rfl, rfl, bb, (fun h => absurd h (by decide))⟩
    · intro a' w' hF' hb hd
      have e39 : a'.tmps.getD 39 undef = .bool false := hd _ 39 (Array.mem_of_getElem? (i := 2) rfl) rfl rfl
      have e47 : a'.tmps.getD 47 undef = .int .i64 (qc (((rawZ nega1 xa1 4 : Int) : Rat) / ((rawZ negb1 xb1 4 : Int) : Rat)) (((rawZ nega2 xa2 4 : Int) : Rat) / ((rawZ negb2 xb2 4 : Int) : Rat))) := hd _ 47 (Array.mem_of_getElem? (i := 0) rfl) rfl rfl
      have e49 : a'.tmps.getD 49 undef = .int .i64 (sz (Rat.num (((rawZ nega3 xa3 4 : Int) : Rat) / ((rawZ negb3 xb3 4 : Int) : Rat)))) := hd _ 49 (Array.mem_of_getElem? (i := 1) rfl) rfl rfl
      exact if_does (wanted_by rfl rfl e39 rfl) (Does.vals (r_bin e47 e49 eg_scalar (ia_mul (small_mul (qc_bd _ _) (sz_bd _)).1 (small_mul (qc_bd _ _) (sz_bd _)).2)) ⟨rfl, Below.refl _ _, (fun h => absurd h (by decide))⟩)
    · intro a' w' hF' hb hd
      have e39 : a'.tmps.getD 39 undef = .bool false := hd _ 39 (Array.mem_of_getElem? (i := 2) rfl) rfl rfl
      have e46 : a'.tmps.getD 46 undef = .int .i64 (qc ((((rawZ nega1 xa1 4 : Int) : Rat) / ((rawZ negb1 xb1 4 : Int) : Rat)) * (((rawZ nega3 xa3 4 : Int) : Rat) / ((rawZ negb3 xb3 4 : Int) : Rat))) ((((rawZ nega2 xa2 4 : Int) : Rat) / ((rawZ negb2 xb2 4 : Int) : Rat)) * (((rawZ nega3 xa3 4 : Int) : Rat) / ((rawZ negb3 xb3 4 : Int) : Rat)))) := hd _ 46 (Array.mem_of_getElem? (i := 0) rfl) rfl rfl
      have e50 : a'.tmps.getD 50 undef = .int .i64 ((qc (((rawZ nega1 xa1 4 : Int) : Rat) / ((rawZ negb1 xb1 4 : Int) : Rat)) (((rawZ nega2 xa2 4 : Int) : Rat) / ((rawZ negb2 xb2 4 : Int) : Rat))) * (sz (Rat.num (((rawZ nega3 xa3 4 : Int) : Rat) / ((rawZ negb3 xb3 4 : Int) : Rat))))) := hd _ 50 (Array.mem_of_getElem? (i := 1) rfl) rfl rfl
      exact if_does (wanted_by rfl rfl e39 rfl) (Does.vals (r_bin e46 e50 eg_scalar (bi_int (ic_neq (c := false) (nex (qc_mul _ _ _))) (by simp))) ⟨rfl, Below.refl _ _, (fun h => absurd h (by decide))⟩)
    · intro a' w' hF' hb hd
      have e39 : a'.tmps.getD 39 undef = .bool false := hd _ 39 (Array.mem_of_getElem? (i := 0) rfl) rfl rfl
      have e51 : a'.tmps.getD 51 undef = .bool false := hd _ 51 (Array.mem_of_getElem? (i := 1) rfl) rfl rfl
      exact if_does (wanted_free rfl) (Does.vals (r_pick_f e39 e51) ⟨rfl, Below.refl _ _, (fun h => absurd h (by decide))⟩)
    · intro a' w' hF' hb hd
      have e52 : a'.tmps.getD 52 undef = .bool false := hd _ 52 (Array.mem_of_getElem? (i := 0) rfl) rfl rfl
      exact if_does (wanted_free rfl) (Does.vals (r_move e52) ⟨rfl, Below.refl _ _, (fun h => absurd h (by decide))⟩)
    · intro a' w' hF' hb hd
      have e53 : a'.tmps.getD 53 undef = .bool false := hd _ 53 (Array.mem_of_getElem? (i := 0) rfl) rfl rfl
      exact if_does (wanted_by rfl rfl e53 rfl) (Does.vals (r_load (hF'.at 6 rfl) (ld_Rat (vs := [.bool b12, .slice ad12 n12 c12, .slice ae12 m12 d12]) (o7.below hb) rfl rfl)) ⟨rfl, Below.refl _ _, (fun h => absurd h (by decide))⟩)
    · intro a' w' hF' hb hd
      have e53 : a'.tmps.getD 53 undef = .bool false := hd _ 53 (Array.mem_of_getElem? (i := 0) rfl) rfl rfl
      exact if_does (wanted_by rfl rfl e53 rfl) (Does.vals (r_load (hF'.at 5 rfl) (ld_Rat (vs := [.bool b14, .slice ad14 n14 c14, .slice ae14 m14 d14]) (o8.below hb) rfl rfl)) ⟨rfl, Below.refl _ _, (fun h => absurd h (by decide))⟩)
    · intro a' w' hF' hb hd
      have e53 : a'.tmps.getD 53 undef = .bool false := hd _ 53 (Array.mem_of_getElem? (i := 2) rfl) rfl rfl
      have e54 : a'.tmps.getD 54 undef = .agg #[.bool b12, .slice ad12 n12 c12, .slice ae12 m12 d12] := hd _ 54 (Array.mem_of_getElem? (i := 0) rfl) rfl rfl
      have e55 : a'.tmps.getD 55 undef = .agg #[.bool b14, .slice ad14 n14 c14, .slice ae14 m14 d14] := hd _ 55 (Array.mem_of_getElem? (i := 1) rfl) rfl rfl
      refine if_does (wanted_by rfl rfl e53 rfl) (Does.calls (r_call Try.func62 en62.1 en62.2 (map2 e54 e55)) (rSub_any _ _ (((rawZ nega1 xa1 4 : Int) : Rat) / ((rawZ negb1 xb1 4 : Int) : Rat)) (((rawZ nega2 xa2 4 : Int) : Rat) / ((rawZ negb2 xb2 4 : Int) : Rat)) 4 _ (hh7.below hb) (hh9.below hb) ((own5_lim nega1 negb1 oka1 okb1 4 (by decide)).up _ (by omega)) ((own5_lim nega2 negb2 oka2 okb2 4 (by decide)).up _ (by omega)) (by omega)) ?_)
      rintro e w'' ⟨v', rfl, h', bb⟩
      exact ⟨_, rfl, h', bb, (fun h => absurd h (by decide))⟩
    · intro a' w' hF' hb hd
      have e53 : a'.tmps.getD 53 undef = .bool false := hd _ 53 (Array.mem_of_getElem? (i := 2) rfl) rfl rfl
      obtain ⟨v56_0, e56, h56_1⟩ : ∃ v, a'.tmps.getD 56 undef = v ∧ Rq w' v ((((rawZ nega1 xa1 4 : Int) : Rat) / ((rawZ negb1 xb1 4 : Int) : Rat)) - (((rawZ nega2 xa2 4 : Int) : Rat) / ((rawZ negb2 xb2 4 : Int) : Rat))) := ⟨_, rfl, hd _ 56 (Array.mem_of_getElem? (i := 0) rfl) rfl rfl⟩
      refine if_does (wanted_by rfl rfl e53 rfl) (Does.calls (r_call Try.func58 en58.1 en58.2 (map1 e56)) (rsgn_any _ ((((rawZ nega1 xa1 4 : Int) : Rat) / ((rawZ negb1 xb1 4 : Int) : Rat)) - (((rawZ nega2 xa2 4 : Int) : Rat) / ((rawZ negb2 xb2 4 : Int) : Rat))) _ h56_1) ?_)
      rintro e w'' ⟨rfl, bb⟩
      exact ⟨_, rfl, rfl, bb, (fun h => absurd h (by decide))⟩
    · intro a' w' hF' hb hd
      have e53 : a'.tmps.getD 53 undef = .bool false := hd _ 53 (Array.mem_of_getElem? (i := 0) rfl) rfl rfl
      exact if_does (wanted_by rfl rfl e53 rfl) (Does.vals (r_move (hF'.at 0 rfl)) ⟨rfl, Below.refl _ _, (fun h => absurd h (by decide))⟩)
    · intro a' w' hF' hb hd
      have e53 : a'.tmps.getD 53 undef = .bool false := hd _ 53 (Array.mem_of_getElem? (i := 2) rfl) rfl rfl
      have e57 : a'.tmps.getD 57 undef = .int .i64 (sz (Rat.num ((((rawZ nega1 xa1 4 : Int) : Rat) / ((rawZ negb1 xb1 4 : Int) : Rat)) - (((rawZ nega2 xa2 4 : Int) : Rat) / ((rawZ negb2 xb2 4 : Int) : Rat))))) := hd _ 57 (Array.mem_of_getElem? (i := 0) rfl) rfl rfl
      have e58 : a'.tmps.getD 58 undef = .int .i64 (qc (((rawZ nega1 xa1 4 : Int) : Rat) / ((rawZ negb1 xb1 4 : Int) : Rat)) (((rawZ nega2 xa2 4 : Int) : Rat) / ((rawZ negb2 xb2 4 : Int) : Rat))) := hd _ 58 (Array.mem_of_getElem? (i := 1) rfl) rfl rfl
      exact if_does (wanted_by rfl rfl e53 rfl) (Does.vals (r_bin e57 e58 eg_scalar (bi_int (ic_neq (c := false) (nex (qc_sub _ _))) (by simp))) ⟨rfl, Below.refl _ _, (fun h => absurd h (by decide))⟩)
    · intro a' w' hF' hb hd
      have e53 : a'.tmps.getD 53 undef = .bool false := hd _ 53 (Array.mem_of_getElem? (i := 0) rfl) rfl rfl
      have e59 : a'.tmps.getD 59 undef = .bool false := hd _ 59 (Array.mem_of_getElem? (i := 1) rfl) rfl rfl
      exact if_does (wanted_free rfl) (Does.vals (r_pick_f e53 e59) ⟨rfl, Below.refl _ _, (fun h => absurd h (by decide))⟩)
    intro a w22 hF bb hall hne
    have e60 : a.tmps.getD 60 undef = .bool false := hall 38 60 rfl
    clear hall hne
    replace hf13 := hf13.below bb
    replace hd12 := hd12.below bb
    replace hh7 := hh7.below bb
    replace hn12 := hn12.below bb
    replace hf15 := hf15.below bb
    replace hd14 := hd14.below bb
    replace hh9 := hh9.below bb
    replace hn14 := hn14.below bb
    replace hf17 := hf17.below bb
    replace hd16 := hd16.below bb
    replace hh11 := hh11.below bb
    replace hn16 := hn16.below bb
    replace o7 := o7.below bb
    replace o8 := o8.below bb
    replace o9 := o9.below bb
    replace bel := below_to bel bb
    clear bb
    replace hF := hF.add e60
    clear e60
    refine E.nil ?_
    refine wp_cond_false (hF.at 0 rfl) ?_
    refine wp_skip ?_
    refine E.norm ?_
    refine wp_seq ?_
    refine E.seq ?_
    refine E.opv hF (r_move (hF.at 1 rfl)) rfl rfl rfl rfl fun a hF => ?_
    refine E.opv hF (r_bin (hF.at 0 rfl) ev_c eg_scalar (bi_int (ic_leq (c := false) (dec_f hc1)) (by simp))) rfl rfl rfl rfl fun a hF => ?_
    refine E.opv hF (r_move (hF.at 0 rfl)) rfl rfl rfl rfl fun a hF => ?_
    refine E.unwanted hF (wanted_by rfl rfl (hF.at 0 rfl) rfl) rfl rfl rfl fun a hF => ?_
    refine E.unwanted hF (wanted_by rfl rfl (hF.at 1 rfl) rfl) rfl rfl rfl fun a hF => ?_
    refine E.unwanted hF (wanted_by rfl rfl (hF.at 2 rfl) rfl) rfl rfl rfl fun a hF => ?_
    refine E.unwanted hF (wanted_by rfl rfl (hF.at 3 rfl) rfl) rfl rfl rfl fun a hF => ?_
    refine E.opv hF (r_pick_f (hF.at 4 rfl) ev_c) rfl rfl rfl rfl fun a hF => ?_
    refine E.opv hF (r_un (hF.at 0 rfl) (bn_not _ true rfl)) rfl rfl rfl rfl fun a hF => ?_
    refine E.opv hF (r_move (hF.at 0 rfl)) rfl rfl rfl rfl fun a hF => ?_
    refine E.unwanted hF (wanted_by rfl rfl (hF.at 0 rfl) rfl) rfl rfl rfl fun a hF => ?_
    refine E.unwanted hF (wanted_by rfl rfl (hF.at 1 rfl) rfl) rfl rfl rfl fun a hF => ?_
    refine E.unwanted hF (wanted_by rfl rfl (hF.at 2 rfl) rfl) rfl rfl rfl fun a hF => ?_
    refine E.unwanted hF (wanted_by rfl rfl (hF.at 3 rfl) rfl) rfl rfl rfl fun a hF => ?_
    refine E.opv hF (r_pick_t (hF.at 4 rfl) ev_c) rfl rfl rfl rfl fun a hF => ?_
    refine E.opset (L' := [(6, .bool true), (75, .bool true), (74, undef), (73, undef), (72, undef), (71, undef), (70, .bool true), (69, .bool true), (68, .bool false), (67, undef), (66, undef), (65, undef), (64, undef), (63, .bool false), (62, .bool false), (61, .int .i64 (qc (((rawZ nega1 xa1 4 : Int) : Rat) / ((rawZ negb1 xb1 4 : Int) : Rat)) (((rawZ nega2 xa2 4 : Int) : Rat) / ((rawZ negb2 xb2 4 : Int) : Rat)))), (60, .bool false), (10, .int .i64 (qc (((rawZ nega1 xa1 4 : Int) : Rat) / ((rawZ negb1 xb1 4 : Int) : Rat)) (((rawZ nega2 xa2 4 : Int) : Rat) / ((rawZ negb2 xb2 4 : Int) : Rat)))), (21, .int .i64 (qc (((rawZ nega1 xa1 4 : Int) : Rat) / ((rawZ negb1 xb1 4 : Int) : Rat)) (((rawZ nega2 xa2 4 : Int) : Rat) / ((rawZ negb2 xb2 4 : Int) : Rat)))), (20, .agg #[.bool b14, .slice ad14 n14 c14, .slice ae14 m14 d14]), (19, .agg #[.bool b12, .slice ad12 n12 c12, .slice ae12 m12 d12]), (9, .pointer (some ⟨g9, 0, none⟩)), (8, .pointer (some ⟨g8, 0, none⟩)), (7, .pointer (some ⟨g7, 0, none⟩)), (18, .agg #[.bool b16, .slice ad16 n16 c16, .slice ae16 m16 d16]), (16, .agg #[.bool b14, .slice ad14 n14 c14, .slice ae14 m14 d14]), (14, .agg #[.bool b12, .slice ad12 n12 c12, .slice ae12 m12 d12]), (12, .bool false), (11, .bool true), (5, .pointer (some ⟨g5, 0, none⟩)), (4, .pointer (some ⟨g4, 0, none⟩)), (3, .pointer (some ⟨g3, 0, none⟩)), (0, .agg #[.bool nega1, .slice aa1 na1 ca1, .bool negb1, .slice ab1 nb1 cb1]), (1, .agg #[.bool nega2, .slice aa2 na2 ca2, .bool negb2, .slice ab2 nb2 cb2]), (2, .agg #[.bool nega3, .slice aa3 na3 ca3, .bool negb3, .slice ab3 nb3 cb3])]) hF (r_assign (hF.at 0 rfl)) rfl rfl rfl rfl fun a hF => ?_
    refine E.nil ?_
    refine wp_ret ?_
    refine bodyPost_ret (res_tmp Try.results13 (hF.at 0 rfl)) hF.dfr ?_
    exact ⟨rfl, bel⟩

end Go.Proofs.Ytjgafncpahbjkaa
