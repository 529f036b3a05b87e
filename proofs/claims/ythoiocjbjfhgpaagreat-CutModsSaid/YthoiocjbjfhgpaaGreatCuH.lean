/- CutMods. -/
import Derived.Test.YthoiocjbjfhgpaaGreatCuD
import Derived.Test.YthoiocjbjfhgpaaGreatCuF
namespace Go.Proofs.YthoiocjbjfhgpaaGreat
open Go.RowKit
set_option maxRecDepth 100000
set_option linter.unusedVariables false

set_option maxHeartbeats 8000000 in
theorem cutMods_walk (nega1 : Bool) (aa1 : Option Addr) (na1 ca1 : Nat) (xa1 : List Nat) (negb1 : Bool) (ab1 : Option Addr) (nb1 cb1 : Nat) (xb1 : List Nat) (nega2 : Bool) (aa2 : Option Addr) (na2 ca2 : Nat) (xa2 : List Nat) (negb2 : Bool) (ab2 : Option Addr) (nb2 cb2 : Nat) (xb2 : List Nat) (nega3 : Bool) (aa3 : Option Addr) (na3 ca3 : Nat) (xa3 : List Nat) (negb3 : Bool) (ab3 : Option Addr) (nb3 cb3 : Nat) (xb3 : List Nat) (w : World) (hM : MLen w) (ia1 : InX w aa1 na1 ca1 xa1) (ib1 : InX w ab1 nb1 cb1 xb1) (ia2 : InX w aa2 na2 ca2 xa2) (ib2 : InX w ab2 nb2 cb2 xb2) (ia3 : InX w aa3 na3 ca3 xa3) (ib3 : InX w ab3 nb3 cb3 xb3) :
    Calls Tryz.prog 4 #[.agg #[.bool nega1, .slice aa1 na1 ca1, .bool negb1, .slice ab1 nb1 cb1], .agg #[.bool nega2, .slice aa2 na2 ca2, .bool negb2, .slice ab2 nb2 cb2], .agg #[.bool nega3, .slice aa3 na3 ca3, .bool negb3, .slice ab3 nb3 cb3]] w (ValPost w (.bool true)) := by
  have oka1 := ia1.ok
  have okb1 := ib1.ok
  have oka2 := ia2.ok
  have okb2 := ib2.ok
  have oka3 := ia3.ok
  have okb3 := ib3.ok
  have bel : Below w.heap.size w w := Below.refl _ _
  refine E.enter (nt := 77) (L := [(0, .agg #[.bool nega1, .slice aa1 na1 ca1, .bool negb1, .slice ab1 nb1 cb1]), (1, .agg #[.bool nega2, .slice aa2 na2 ca2, .bool negb2, .slice ab2 nb2 cb2]), (2, .agg #[.bool nega3, .slice aa3 na3 ca3, .bool negb3, .slice ab3 nb3 cb3])]) Tryz.func4 rfl rfl rfl (args_cons (i := 0) rfl (args_cons (i := 1) rfl (args_cons (i := 2) rfl args_nil))) ?_
  intro a hF
  refine wp_seq ?_
  refine E.seq ?_
  obtain ⟨g3, w1, ge3, hr, bb, o3⟩ := own_box (P := Tryz.prog) (w := w) (cs := [.bool nega1, .slice aa1 na1 ca1, .bool negb1, .slice ab1 nb1 cb1]) (v := .agg #[.bool nega1, .slice aa1 na1 ca1, .bool negb1, .slice ab1 nb1 cb1]) 26 rfl (niB (niS (niB (niS ni0))))
  replace ge3 : w.heap.size ≤ g3 := by rw [← ge3]; exact bel.size
  refine E.opv hF (r_box (hF.at 0 rfl) hr) rfl rfl rfl rfl fun a hF => ?_
  clear hr
  replace ia2 := ia2.below bb
  replace ib2 := ib2.below bb
  replace ia3 := ia3.below bb
  replace ib3 := ib3.below bb
  replace ia1 := ia1.below bb
  replace ib1 := ib1.below bb
  replace bel := below_to bel bb
  clear bb
  obtain ⟨g4, w2, ge4, hr, bb, o4⟩ := own_box (P := Tryz.prog) (w := w1) (cs := [.bool nega2, .slice aa2 na2 ca2, .bool negb2, .slice ab2 nb2 cb2]) (v := .agg #[.bool nega2, .slice aa2 na2 ca2, .bool negb2, .slice ab2 nb2 cb2]) 26 rfl (niB (niS (niB (niS ni0))))
  have ne3_4 : g3 ≠ g4 := by rw [← ge4]; exact o3.ne_new
  replace ge4 : w.heap.size ≤ g4 := by rw [← ge4]; exact bel.size
  refine E.opv hF (r_box (hF.at 2 rfl) hr) rfl rfl rfl rfl fun a hF => ?_
  clear hr
  replace ia3 := ia3.below bb
  replace ib3 := ib3.below bb
  replace ia1 := ia1.below bb
  replace ib1 := ib1.below bb
  replace ia2 := ia2.below bb
  replace ib2 := ib2.below bb
  replace o3 := o3.below bb
  replace bel := below_to bel bb
  clear bb
  obtain ⟨g5, w3, ge5, hr, bb, o5⟩ := own_box (P := Tryz.prog) (w := w2) (cs := [.bool nega3, .slice aa3 na3 ca3, .bool negb3, .slice ab3 nb3 cb3]) (v := .agg #[.bool nega3, .slice aa3 na3 ca3, .bool negb3, .slice ab3 nb3 cb3]) 26 rfl (niB (niS (niB (niS ni0))))
  have ne3_5 : g3 ≠ g5 := by rw [← ge5]; exact o3.ne_new
  have ne4_5 : g4 ≠ g5 := by rw [← ge5]; exact o4.ne_new
  replace ge5 : w.heap.size ≤ g5 := by rw [← ge5]; exact bel.size
  refine E.opv hF (r_box (hF.at 4 rfl) hr) rfl rfl rfl rfl fun a hF => ?_
  clear hr
  replace ia1 := ia1.below bb
  replace ib1 := ib1.below bb
  replace ia2 := ia2.below bb
  replace ib2 := ib2.below bb
  replace ia3 := ia3.below bb
  replace ib3 := ib3.below bb
  replace o3 := o3.below bb
  replace o4 := o4.below bb
  replace bel := below_to bel bb
  clear bb
  refine E.opv hF (r_assign ev_c) rfl rfl rfl rfl fun a hF => ?_
  refine E.nil ?_
  refine wp_seq ?_
  refine wp_seq ?_
  refine E.seq ?_
  refine E.call hF (r_call Tryz.func9 en9.1 en9.2 map0) (awake6_any _ (hM.below bel)) rfl rfl rfl rfl ?_
  rintro e w4 ⟨rfl, bb⟩
  refine ⟨_, rfl, ?_⟩
  intro a hF
  replace ia1 := ia1.below bb
  replace ib1 := ib1.below bb
  replace ia2 := ia2.below bb
  replace ib2 := ib2.below bb
  replace ia3 := ia3.below bb
  replace ib3 := ib3.below bb
  replace o3 := o3.below bb
  replace o4 := o4.below bb
  replace o5 := o5.below bb
  replace bel := below_to bel bb
  clear bb
  refine E.opv hF (r_un (hF.at 0 rfl) (bn_not _ false rfl)) rfl rfl rfl rfl fun a hF => ?_
  refine E.nil ?_
  refine wp_cond_false (hF.at 0 rfl) ?_
  refine wp_skip ?_
  refine E.norm ?_
  refine wp_seq ?_
  refine E.drawn 9 mixed hF [14, 15, 16, 17, 18, 19, 7, 8, 9] [(fun _ v => v = .agg #[.bool nega1, .slice aa1 na1 ca1, .bool negb1, .slice ab1 nb1 cb1]), (fun w v => Rq w v (((rawZ nega1 xa1 4 : Int) : Rat) / ((rawZ negb1 xb1 4 : Int) : Rat))), (fun _ v => v = .agg #[.bool nega2, .slice aa2 na2 ca2, .bool negb2, .slice ab2 nb2 cb2]), (fun w v => Rq w v (((rawZ nega2 xa2 4 : Int) : Rat) / ((rawZ negb2 xb2 4 : Int) : Rat))), (fun _ v => v = .agg #[.bool nega3, .slice aa3 na3 ca3, .bool negb3, .slice ab3 nb3 cb3]), (fun w v => Rq w v (((rawZ nega3 xa3 4 : Int) : Rat) / ((rawZ negb3 xb3 4 : Int) : Rat))), (fun w v => ∃ g, v = .pointer (some ⟨g, 0, none⟩) ∧ w4.heap.size ≤ g ∧ Own w g [.bool false, .slice none 0 0, .slice none 0 0]), (fun w v => ∃ g, v = .pointer (some ⟨g, 0, none⟩) ∧ w4.heap.size ≤ g ∧ Own w g [.bool false, .slice none 0 0, .slice none 0 0]), (fun w v => ∃ g, v = .pointer (some ⟨g, 0, none⟩) ∧ w4.heap.size ≤ g ∧ Own w g [.bool false, .slice none 0 0, .slice none 0 0])] [6, 7, 8] (by decide +kernel) (by decide +kernel) rfl rfl rfl ⟨(Mb.eq _), (fun _ _ _ h hb => h.below hb), (Mb.eq _), (fun _ _ _ h hb => h.below hb), (Mb.eq _), (fun _ _ _ h hb => h.below hb), (fun _ _ _ ⟨g, e, l, o⟩ hb => ⟨g, e, l, o.below hb⟩), (fun _ _ _ ⟨g, e, l, o⟩ hb => ⟨g, e, l, o.below hb⟩), (fun _ _ _ ⟨g, e, l, o⟩ hb => ⟨g, e, l, o.below hb⟩), trivial⟩ ⟨fun _ _ ⟨g, e, _, o⟩ => ⟨g, e, o.lt⟩, ⟨fun _ _ ⟨g, e, _, o⟩ => ⟨g, e, o.lt⟩, ⟨fun _ _ ⟨g, e, _, o⟩ => ⟨g, e, o.lt⟩, trivial⟩⟩⟩ ⟨?_, ?_, ?_, ?_, ?_, ?_, ?_, ?_, ?_, trivial⟩ ?_
  · intro a' w' hF' hb hd
    exact if_does (wanted_free rfl) (Does.vals (r_load (hF'.at 5 rfl) (ld_Raw5 (vs := [.bool nega1, .slice aa1 na1 ca1, .bool negb1, .slice ab1 nb1 cb1]) (o3.below hb) rfl rfl)) ⟨rfl, Below.refl _ _, (fun h => absurd h (by decide))⟩)
  · intro a' w' hF' hb hd
    have e14 : a'.tmps.getD 14 undef = .agg #[.bool nega1, .slice aa1 na1 ca1, .bool negb1, .slice ab1 nb1 cb1] := hd _ 14 (Array.mem_of_getElem? (i := 0) rfl) rfl rfl
    refine if_does (wanted_free rfl) (Does.calls (r_call Tryz.func10 en10.1 en10.2 (map2 e14 ev_c)) (Own5_any nega1 aa1 na1 ca1 xa1 negb1 ab1 nb1 cb1 xb1 4 _ (ia1.below hb) (ib1.below hb) (by omega)) ?_)
    rintro e w'' ⟨v', rfl, h', bb⟩
    exact ⟨_, rfl, h', bb, (fun h => absurd h (by decide))⟩
  · intro a' w' hF' hb hd
    exact if_does (wanted_free rfl) (Does.vals (r_load (hF'.at 4 rfl) (ld_Raw5 (vs := [.bool nega2, .slice aa2 na2 ca2, .bool negb2, .slice ab2 nb2 cb2]) (o4.below hb) rfl rfl)) ⟨rfl, Below.refl _ _, (fun h => absurd h (by decide))⟩)
  · intro a' w' hF' hb hd
    have e16 : a'.tmps.getD 16 undef = .agg #[.bool nega2, .slice aa2 na2 ca2, .bool negb2, .slice ab2 nb2 cb2] := hd _ 16 (Array.mem_of_getElem? (i := 0) rfl) rfl rfl
    refine if_does (wanted_free rfl) (Does.calls (r_call Tryz.func10 en10.1 en10.2 (map2 e16 ev_c)) (Own5_any nega2 aa2 na2 ca2 xa2 negb2 ab2 nb2 cb2 xb2 4 _ (ia2.below hb) (ib2.below hb) (by omega)) ?_)
    rintro e w'' ⟨v', rfl, h', bb⟩
    exact ⟨_, rfl, h', bb, (fun h => absurd h (by decide))⟩
  · intro a' w' hF' hb hd
    exact if_does (wanted_free rfl) (Does.vals (r_load (hF'.at 3 rfl) (ld_Raw5 (vs := [.bool nega3, .slice aa3 na3 ca3, .bool negb3, .slice ab3 nb3 cb3]) (o5.below hb) rfl rfl)) ⟨rfl, Below.refl _ _, (fun h => absurd h (by decide))⟩)
  · intro a' w' hF' hb hd
    have e18 : a'.tmps.getD 18 undef = .agg #[.bool nega3, .slice aa3 na3 ca3, .bool negb3, .slice ab3 nb3 cb3] := hd _ 18 (Array.mem_of_getElem? (i := 0) rfl) rfl rfl
    refine if_does (wanted_free rfl) (Does.calls (r_call Tryz.func10 en10.1 en10.2 (map2 e18 ev_c)) (Own5_any nega3 aa3 na3 ca3 xa3 negb3 ab3 nb3 cb3 xb3 4 _ (ia3.below hb) (ib3.below hb) (by omega)) ?_)
    rintro e w'' ⟨v', rfl, h', bb⟩
    exact ⟨_, rfl, h', bb, (fun h => absurd h (by decide))⟩
  · intro a' w' hF' hb hd
    obtain ⟨g, w2, ge, hr, bb, on⟩ := own_alloc (P := Tryz.prog) (w := w') (cs := [.bool false, .slice none 0 0, .slice none 0 0]) 32 ze_Rat rfl (niB (niS (niS ni0)))
    subst ge
    exact if_does (wanted_free rfl) (Does.vals (r_alloc hr) ⟨⟨_, rfl, hb.size, on⟩, bb, fun _ => rfl⟩)
  · intro a' w' hF' hb hd
    obtain ⟨g, w2, ge, hr, bb, on⟩ := own_alloc (P := Tryz.prog) (w := w') (cs := [.bool false, .slice none 0 0, .slice none 0 0]) 32 ze_Rat rfl (niB (niS (niS ni0)))
    subst ge
    exact if_does (wanted_free rfl) (Does.vals (r_alloc hr) ⟨⟨_, rfl, hb.size, on⟩, bb, fun _ => rfl⟩)
  · intro a' w' hF' hb hd
    obtain ⟨g, w2, ge, hr, bb, on⟩ := own_alloc (P := Tryz.prog) (w := w') (cs := [.bool false, .slice none 0 0, .slice none 0 0]) 32 ze_Rat rfl (niB (niS (niS ni0)))
    subst ge
    exact if_does (wanted_free rfl) (Does.vals (r_alloc hr) ⟨⟨_, rfl, hb.size, on⟩, bb, fun _ => rfl⟩)
  intro a w5 hF bb hall hne
  obtain ⟨vv6, e15, hh7⟩ : ∃ v, a.tmps.getD 15 undef = v ∧ Rq w5 v (((rawZ nega1 xa1 4 : Int) : Rat) / ((rawZ negb1 xb1 4 : Int) : Rat)) := ⟨_, rfl, hall 1 15 rfl⟩
  obtain ⟨vv8, e17, hh9⟩ : ∃ v, a.tmps.getD 17 undef = v ∧ Rq w5 v (((rawZ nega2 xa2 4 : Int) : Rat) / ((rawZ negb2 xb2 4 : Int) : Rat)) := ⟨_, rfl, hall 3 17 rfl⟩
  obtain ⟨vv10, e19, hh11⟩ : ∃ v, a.tmps.getD 19 undef = v ∧ Rq w5 v (((rawZ nega3 xa3 4 : Int) : Rat) / ((rawZ negb3 xb3 4 : Int) : Rat)) := ⟨_, rfl, hall 5 19 rfl⟩
  obtain ⟨g7, e7, ge7, o7⟩ : ∃ g, a.tmps.getD 7 undef = .pointer (some ⟨g, 0, none⟩) ∧ w4.heap.size ≤ g ∧ Own w5 g [.bool false, .slice none 0 0, .slice none 0 0] := hall 6 7 rfl
  have ne3_7 : g3 ≠ g7 := Nat.ne_of_lt (Nat.lt_of_lt_of_le o3.lt ge7)
  have ne4_7 : g4 ≠ g7 := Nat.ne_of_lt (Nat.lt_of_lt_of_le o4.lt ge7)
  have ne5_7 : g5 ≠ g7 := Nat.ne_of_lt (Nat.lt_of_lt_of_le o5.lt ge7)
  obtain ⟨g8, e8, ge8, o8⟩ : ∃ g, a.tmps.getD 8 undef = .pointer (some ⟨g, 0, none⟩) ∧ w4.heap.size ≤ g ∧ Own w5 g [.bool false, .slice none 0 0, .slice none 0 0] := hall 7 8 rfl
  have ne3_8 : g3 ≠ g8 := Nat.ne_of_lt (Nat.lt_of_lt_of_le o3.lt ge8)
  have ne4_8 : g4 ≠ g8 := Nat.ne_of_lt (Nat.lt_of_lt_of_le o4.lt ge8)
  have ne5_8 : g5 ≠ g8 := Nat.ne_of_lt (Nat.lt_of_lt_of_le o5.lt ge8)
  have ne7_8 : g7 ≠ g8 := by intro e; exact hne 6 7 7 8 rfl rfl (by decide) rfl rfl (by rw [e7, e8, e])
  obtain ⟨g9, e9, ge9, o9⟩ : ∃ g, a.tmps.getD 9 undef = .pointer (some ⟨g, 0, none⟩) ∧ w4.heap.size ≤ g ∧ Own w5 g [.bool false, .slice none 0 0, .slice none 0 0] := hall 8 9 rfl
  have ne3_9 : g3 ≠ g9 := Nat.ne_of_lt (Nat.lt_of_lt_of_le o3.lt ge9)
  have ne4_9 : g4 ≠ g9 := Nat.ne_of_lt (Nat.lt_of_lt_of_le o4.lt ge9)
  have ne5_9 : g5 ≠ g9 := Nat.ne_of_lt (Nat.lt_of_lt_of_le o5.lt ge9)
  have ne7_9 : g7 ≠ g9 := by intro e; exact hne 6 8 7 9 rfl rfl (by decide) rfl rfl (by rw [e7, e9, e])
  have ne8_9 : g8 ≠ g9 := by intro e; exact hne 7 8 8 9 rfl rfl (by decide) rfl rfl (by rw [e8, e9, e])
  replace ge7 : w.heap.size ≤ g7 := Nat.le_trans bel.size ge7
  replace ge8 : w.heap.size ≤ g8 := Nat.le_trans bel.size ge8
  replace ge9 : w.heap.size ≤ g9 := Nat.le_trans bel.size ge9
  clear hall hne
  replace ia1 := ia1.below bb
  replace ib1 := ib1.below bb
  replace ia2 := ia2.below bb
  replace ib2 := ib2.below bb
  replace ia3 := ia3.below bb
  replace ib3 := ib3.below bb
  replace o3 := o3.below bb
  replace o4 := o4.below bb
  replace o5 := o5.below bb
  replace bel := below_to bel bb
  clear bb
  obtain ⟨b12, ad12, n12, c12, ae12, m12, d12, rfl, hn12, hd12⟩ := Rq.shape hh7
  have hf13 := Wc.abs hn12
  replace hF := hF.add e15
  clear e15
  obtain ⟨b14, ad14, n14, c14, ae14, m14, d14, rfl, hn14, hd14⟩ := Rq.shape hh9
  have hf15 := Wc.abs hn14
  replace hF := hF.add e17
  clear e17
  obtain ⟨b16, ad16, n16, c16, ae16, m16, d16, rfl, hn16, hd16⟩ := Rq.shape hh11
  have hf17 := Wc.abs hn16
  replace hF := hF.add e19
  clear e19
  replace hF := hF.add e7
  clear e7
  replace hF := hF.add e8
  clear e8
  replace hF := hF.add e9
  clear e9
  obtain ⟨w18, hr, tu, on⟩ := st_Rat (vs := [.bool b12, .slice ad12 n12 c12, .slice ae12 m12 d12]) o7 rfl rfl (ocB (ocS (ocS oc0))) (niB (niS (niS ni0))) (o := 0) rfl
  have kp := tu.keep o7
  refine E.st hF (r_store (hF.at 2 rfl) (hF.at 5 rfl) (hr _ rfl)) rfl rfl fun a hF => ?_
  clear hr
  replace hh11 := hh11.keep kp
  replace hn16 := hn16.keep kp
  replace hf17 := hf17.keep kp
  replace hd16 := hd16.keep kp
  replace hh9 := hh9.keep kp
  replace hn14 := hn14.keep kp
  replace hf15 := hf15.keep kp
  replace hd14 := hd14.keep kp
  replace ia1 := ia1.keep kp
  replace ib1 := ib1.keep kp
  replace ia2 := ia2.keep kp
  replace ib2 := ib2.keep kp
  replace ia3 := ia3.keep kp
  replace ib3 := ib3.keep kp
  replace hh7 := hh7.keep kp
  replace hn12 := hn12.keep kp
  replace hf13 := hf13.keep kp
  replace hd12 := hd12.keep kp
  replace o3 := tu.own o3 ne3_7
  replace o4 := tu.own o4 ne4_7
  replace o5 := tu.own o5 ne5_7
  replace o8 := tu.own o8 (Ne.symm ne7_8)
  replace o9 := tu.own o9 (Ne.symm ne7_9)
  replace bel := tu.below bel ge7
  clear tu kp
  replace o7 := on
  clear on
  obtain ⟨w19, hr, tu, on⟩ := st_Rat (vs := [.bool b14, .slice ad14 n14 c14, .slice ae14 m14 d14]) o8 rfl rfl (ocB (ocS (ocS oc0))) (niB (niS (niS ni0))) (o := 0) rfl
  have kp := tu.keep o8
  refine E.st hF (r_store (hF.at 1 rfl) (hF.at 4 rfl) (hr _ rfl)) rfl rfl fun a hF => ?_
  clear hr
  replace hh11 := hh11.keep kp
  replace hn16 := hn16.keep kp
  replace hf17 := hf17.keep kp
  replace hd16 := hd16.keep kp
  replace ia1 := ia1.keep kp
  replace ib1 := ib1.keep kp
  replace ia2 := ia2.keep kp
  replace ib2 := ib2.keep kp
  replace ia3 := ia3.keep kp
  replace ib3 := ib3.keep kp
  replace hf13 := hf13.keep kp
  replace hd12 := hd12.keep kp
  replace hh7 := hh7.keep kp
  replace hn12 := hn12.keep kp
  replace hh9 := hh9.keep kp
  replace hn14 := hn14.keep kp
  replace hf15 := hf15.keep kp
  replace hd14 := hd14.keep kp
  replace o3 := tu.own o3 ne3_8
  replace o4 := tu.own o4 ne4_8
  replace o5 := tu.own o5 ne5_8
  replace o7 := tu.own o7 ne7_8
  replace o9 := tu.own o9 (Ne.symm ne8_9)
  replace bel := tu.below bel ge8
  clear tu kp
  replace o8 := on
  clear on
  obtain ⟨w20, hr, tu, on⟩ := st_Rat (vs := [.bool b16, .slice ad16 n16 c16, .slice ae16 m16 d16]) o9 rfl rfl (ocB (ocS (ocS oc0))) (niB (niS (niS ni0))) (o := 0) rfl
  have kp := tu.keep o9
  refine E.st hF (r_store (hF.at 0 rfl) (hF.at 3 rfl) (hr _ rfl)) rfl rfl fun a hF => ?_
  clear hr
  replace ia1 := ia1.keep kp
  replace ib1 := ib1.keep kp
  replace ia2 := ia2.keep kp
  replace ib2 := ib2.keep kp
  replace ia3 := ia3.keep kp
  replace ib3 := ib3.keep kp
  replace hf13 := hf13.keep kp
  replace hd12 := hd12.keep kp
  replace hh7 := hh7.keep kp
  replace hn12 := hn12.keep kp
  replace hf15 := hf15.keep kp
  replace hd14 := hd14.keep kp
  replace hh9 := hh9.keep kp
  replace hn14 := hn14.keep kp
  replace hh11 := hh11.keep kp
  replace hn16 := hn16.keep kp
  replace hf17 := hf17.keep kp
  replace hd16 := hd16.keep kp
  replace o3 := tu.own o3 ne3_9
  replace o4 := tu.own o4 ne4_9
  replace o5 := tu.own o5 ne5_9
  replace o7 := tu.own o7 ne7_9
  replace o8 := tu.own o8 ne8_9
  replace bel := tu.below bel ge9
  clear tu kp
  replace o9 := on
  clear on
  refine E.nil ?_
  refine wp_seq ?_
  refine E.drawn 9 mixed hF [20, 21, 22, 23, 24, 25, 26, 10, 11] [(fun _ v => v = .agg #[.bool b12, .slice ad12 n12 c12, .slice ae12 m12 d12]), (fun _ v => v = .agg #[.bool b14, .slice ad14 n14 c14, .slice ae14 m14 d14]), (fun w v => Rq w v (rmod (((rawZ nega1 xa1 4 : Int) : Rat) / ((rawZ negb1 xb1 4 : Int) : Rat)) (((rawZ nega2 xa2 4 : Int) : Rat) / ((rawZ negb2 xb2 4 : Int) : Rat)))), (fun _ v => v = .agg #[.bool b12, .slice ad12 n12 c12, .slice ae12 m12 d12]), (fun _ v => v = .agg #[.bool b14, .slice ad14 n14 c14, .slice ae14 m14 d14]), (fun _ v => v = .agg #[.bool b16, .slice ad16 n16 c16, .slice ae16 m16 d16]), (fun w v => Rq w v (rinto (((rawZ nega1 xa1 4 : Int) : Rat) / ((rawZ negb1 xb1 4 : Int) : Rat)) (((rawZ nega2 xa2 4 : Int) : Rat) / ((rawZ negb2 xb2 4 : Int) : Rat)) (((rawZ nega3 xa3 4 : Int) : Rat) / ((rawZ negb3 xb3 4 : Int) : Rat)))), (fun w v => ∃ g, v = .pointer (some ⟨g, 0, none⟩) ∧ w20.heap.size ≤ g ∧ Own w g [.bool false, .slice none 0 0, .slice none 0 0]), (fun w v => ∃ g, v = .pointer (some ⟨g, 0, none⟩) ∧ w20.heap.size ≤ g ∧ Own w g [.bool false, .slice none 0 0, .slice none 0 0])] [7, 8] (by decide +kernel) (by decide +kernel) rfl rfl rfl ⟨(Mb.eq _), (Mb.eq _), (fun _ _ _ h hb => h.below hb), (Mb.eq _), (Mb.eq _), (Mb.eq _), (fun _ _ _ h hb => h.below hb), (fun _ _ _ ⟨g, e, l, o⟩ hb => ⟨g, e, l, o.below hb⟩), (fun _ _ _ ⟨g, e, l, o⟩ hb => ⟨g, e, l, o.below hb⟩), trivial⟩ ⟨fun _ _ ⟨g, e, _, o⟩ => ⟨g, e, o.lt⟩, ⟨fun _ _ ⟨g, e, _, o⟩ => ⟨g, e, o.lt⟩, trivial⟩⟩ ⟨?_, ?_, ?_, ?_, ?_, ?_, ?_, ?_, ?_, trivial⟩ ?_
  · intro a' w' hF' hb hd
    exact if_does (wanted_free rfl) (Does.vals (r_load (hF'.at 2 rfl) (ld_Rat (vs := [.bool b12, .slice ad12 n12 c12, .slice ae12 m12 d12]) (o7.below hb) rfl rfl)) ⟨rfl, Below.refl _ _, (fun h => absurd h (by decide))⟩)
  · intro a' w' hF' hb hd
    exact if_does (wanted_free rfl) (Does.vals (r_load (hF'.at 1 rfl) (ld_Rat (vs := [.bool b14, .slice ad14 n14 c14, .slice ae14 m14 d14]) (o8.below hb) rfl rfl)) ⟨rfl, Below.refl _ _, (fun h => absurd h (by decide))⟩)
  · intro a' w' hF' hb hd
    have e20 : a'.tmps.getD 20 undef = .agg #[.bool b12, .slice ad12 n12 c12, .slice ae12 m12 d12] := hd _ 20 (Array.mem_of_getElem? (i := 0) rfl) rfl rfl
    have e21 : a'.tmps.getD 21 undef = .agg #[.bool b14, .slice ad14 n14 c14, .slice ae14 m14 d14] := hd _ 21 (Array.mem_of_getElem? (i := 1) rfl) rfl rfl
    refine if_does (wanted_free rfl) (Does.calls (r_call Tryz.func30 en30.1 en30.2 (map2 e20 e21)) (cMod_any _ _ (((rawZ nega1 xa1 4 : Int) : Rat) / ((rawZ negb1 xb1 4 : Int) : Rat)) (((rawZ nega2 xa2 4 : Int) : Rat) / ((rawZ negb2 xb2 4 : Int) : Rat)) 4 4 _ (hh7.below hb) (hh9.below hb) (own5_lim nega1 negb1 oka1 okb1 4 (by decide)) (own5_lim nega2 negb2 oka2 okb2 4 (by decide)) (by omega) (by omega)) ?_)
    rintro e w'' ⟨v', rfl, h', bb⟩
    exact ⟨_, rfl, h', bb, (fun h => absurd h (by decide))⟩
  · intro a' w' hF' hb hd
    exact if_does (wanted_free rfl) (Does.vals (r_load (hF'.at 2 rfl) (ld_Rat (vs := [.bool b12, .slice ad12 n12 c12, .slice ae12 m12 d12]) (o7.below hb) rfl rfl)) ⟨rfl, Below.refl _ _, (fun h => absurd h (by decide))⟩)
  · intro a' w' hF' hb hd
    exact if_does (wanted_free rfl) (Does.vals (r_load (hF'.at 1 rfl) (ld_Rat (vs := [.bool b14, .slice ad14 n14 c14, .slice ae14 m14 d14]) (o8.below hb) rfl rfl)) ⟨rfl, Below.refl _ _, (fun h => absurd h (by decide))⟩)
  · intro a' w' hF' hb hd
    exact if_does (wanted_free rfl) (Does.vals (r_load (hF'.at 0 rfl) (ld_Rat (vs := [.bool b16, .slice ad16 n16 c16, .slice ae16 m16 d16]) (o9.below hb) rfl rfl)) ⟨rfl, Below.refl _ _, (fun h => absurd h (by decide))⟩)
  · intro a' w' hF' hb hd
    have e23 : a'.tmps.getD 23 undef = .agg #[.bool b12, .slice ad12 n12 c12, .slice ae12 m12 d12] := hd _ 23 (Array.mem_of_getElem? (i := 0) rfl) rfl rfl
    have e24 : a'.tmps.getD 24 undef = .agg #[.bool b14, .slice ad14 n14 c14, .slice ae14 m14 d14] := hd _ 24 (Array.mem_of_getElem? (i := 1) rfl) rfl rfl
    have e25 : a'.tmps.getD 25 undef = .agg #[.bool b16, .slice ad16 n16 c16, .slice ae16 m16 d16] := hd _ 25 (Array.mem_of_getElem? (i := 2) rfl) rfl rfl
    refine if_does (wanted_free rfl) (Does.calls (r_call Tryz.func31 en31.1 en31.2 (map3 e23 e24 e25)) (cInto_any _ _ _ (((rawZ nega1 xa1 4 : Int) : Rat) / ((rawZ negb1 xb1 4 : Int) : Rat)) (((rawZ nega2 xa2 4 : Int) : Rat) / ((rawZ negb2 xb2 4 : Int) : Rat)) (((rawZ nega3 xa3 4 : Int) : Rat) / ((rawZ negb3 xb3 4 : Int) : Rat)) 4 4 4 _ (hh7.below hb) (hh9.below hb) (hh11.below hb) (own5_lim nega1 negb1 oka1 okb1 4 (by decide)) (own5_lim nega2 negb2 oka2 okb2 4 (by decide)) (own5_lim nega3 negb3 oka3 okb3 4 (by decide)) (by omega) (by omega) (by omega)) ?_)
    rintro e w'' ⟨v', rfl, h', bb⟩
    exact ⟨_, rfl, h', bb, (fun h => absurd h (by decide))⟩
  · intro a' w' hF' hb hd
    obtain ⟨g, w2, ge, hr, bb, on⟩ := own_alloc (P := Tryz.prog) (w := w') (cs := [.bool false, .slice none 0 0, .slice none 0 0]) 32 ze_Rat rfl (niB (niS (niS ni0)))
    subst ge
    exact if_does (wanted_free rfl) (Does.vals (r_alloc hr) ⟨⟨_, rfl, hb.size, on⟩, bb, fun _ => rfl⟩)
  · intro a' w' hF' hb hd
    obtain ⟨g, w2, ge, hr, bb, on⟩ := own_alloc (P := Tryz.prog) (w := w') (cs := [.bool false, .slice none 0 0, .slice none 0 0]) 32 ze_Rat rfl (niB (niS (niS ni0)))
    subst ge
    exact if_does (wanted_free rfl) (Does.vals (r_alloc hr) ⟨⟨_, rfl, hb.size, on⟩, bb, fun _ => rfl⟩)
  intro a w21 hF bb hall hne
  obtain ⟨vv22, e22, hh23⟩ : ∃ v, a.tmps.getD 22 undef = v ∧ Rq w21 v (rmod (((rawZ nega1 xa1 4 : Int) : Rat) / ((rawZ negb1 xb1 4 : Int) : Rat)) (((rawZ nega2 xa2 4 : Int) : Rat) / ((rawZ negb2 xb2 4 : Int) : Rat))) := ⟨_, rfl, hall 2 22 rfl⟩
  obtain ⟨vv24, e26, hh25⟩ : ∃ v, a.tmps.getD 26 undef = v ∧ Rq w21 v (rinto (((rawZ nega1 xa1 4 : Int) : Rat) / ((rawZ negb1 xb1 4 : Int) : Rat)) (((rawZ nega2 xa2 4 : Int) : Rat) / ((rawZ negb2 xb2 4 : Int) : Rat)) (((rawZ nega3 xa3 4 : Int) : Rat) / ((rawZ negb3 xb3 4 : Int) : Rat))) := ⟨_, rfl, hall 6 26 rfl⟩
  obtain ⟨g10, e10, ge10, o10⟩ : ∃ g, a.tmps.getD 10 undef = .pointer (some ⟨g, 0, none⟩) ∧ w20.heap.size ≤ g ∧ Own w21 g [.bool false, .slice none 0 0, .slice none 0 0] := hall 7 10 rfl
  have ne3_10 : g3 ≠ g10 := Nat.ne_of_lt (Nat.lt_of_lt_of_le o3.lt ge10)
  have ne4_10 : g4 ≠ g10 := Nat.ne_of_lt (Nat.lt_of_lt_of_le o4.lt ge10)
  have ne5_10 : g5 ≠ g10 := Nat.ne_of_lt (Nat.lt_of_lt_of_le o5.lt ge10)
  have ne8_10 : g8 ≠ g10 := Nat.ne_of_lt (Nat.lt_of_lt_of_le o8.lt ge10)
  have ne9_10 : g9 ≠ g10 := Nat.ne_of_lt (Nat.lt_of_lt_of_le o9.lt ge10)
  obtain ⟨g11, e11, ge11, o11⟩ : ∃ g, a.tmps.getD 11 undef = .pointer (some ⟨g, 0, none⟩) ∧ w20.heap.size ≤ g ∧ Own w21 g [.bool false, .slice none 0 0, .slice none 0 0] := hall 8 11 rfl
  have ne3_11 : g3 ≠ g11 := Nat.ne_of_lt (Nat.lt_of_lt_of_le o3.lt ge11)
  have ne4_11 : g4 ≠ g11 := Nat.ne_of_lt (Nat.lt_of_lt_of_le o4.lt ge11)
  have ne5_11 : g5 ≠ g11 := Nat.ne_of_lt (Nat.lt_of_lt_of_le o5.lt ge11)
  have ne8_11 : g8 ≠ g11 := Nat.ne_of_lt (Nat.lt_of_lt_of_le o8.lt ge11)
  have ne9_11 : g9 ≠ g11 := Nat.ne_of_lt (Nat.lt_of_lt_of_le o9.lt ge11)
  have ne10_11 : g10 ≠ g11 := by intro e; exact hne 7 8 10 11 rfl rfl (by decide) rfl rfl (by rw [e10, e11, e])
  replace ge10 : w.heap.size ≤ g10 := Nat.le_trans bel.size ge10
  replace ge11 : w.heap.size ≤ g11 := Nat.le_trans bel.size ge11
  clear hall hne
  replace ia1 := ia1.below bb
  replace ib1 := ib1.below bb
  replace ia2 := ia2.below bb
  replace ib2 := ib2.below bb
  replace ia3 := ia3.below bb
  replace ib3 := ib3.below bb
  replace hf15 := hf15.below bb
  replace hd14 := hd14.below bb
  replace hh9 := hh9.below bb
  replace hn14 := hn14.below bb
  replace hf17 := hf17.below bb
  replace hd16 := hd16.below bb
  replace hh11 := hh11.below bb
  replace hn16 := hn16.below bb
  replace o3 := o3.below bb
  replace o4 := o4.below bb
  replace o5 := o5.below bb
  replace o8 := o8.below bb
  replace o9 := o9.below bb
  replace bel := below_to bel bb
  clear bb
  obtain ⟨b26, ad26, n26, c26, ae26, m26, d26, rfl, hn26, hd26⟩ := Rq.shape hh23
  have hf27 := Wc.abs hn26
  replace hF := hF.add e22
  clear e22
  obtain ⟨b28, ad28, n28, c28, ae28, m28, d28, rfl, hn28, hd28⟩ := Rq.shape hh25
  have hf29 := Wc.abs hn28
  replace hF := hF.add e26
  clear e26
  replace hF := hF.add e10
  clear e10
  replace hF := hF.add e11
  clear e11
  obtain ⟨w30, hr, tu, on⟩ := st_Rat (vs := [.bool b26, .slice ad26 n26 c26, .slice ae26 m26 d26]) o10 rfl rfl (ocB (ocS (ocS oc0))) (niB (niS (niS ni0))) (o := 0) rfl
  have kp := tu.keep o10
  refine E.st hF (r_store (hF.at 1 rfl) (hF.at 3 rfl) (hr _ rfl)) rfl rfl fun a hF => ?_
  clear hr
  replace hh25 := hh25.keep kp
  replace hn28 := hn28.keep kp
  replace hf29 := hf29.keep kp
  replace hd28 := hd28.keep kp
  replace ia1 := ia1.keep kp
  replace ib1 := ib1.keep kp
  replace ia2 := ia2.keep kp
  replace ib2 := ib2.keep kp
  replace ia3 := ia3.keep kp
  replace ib3 := ib3.keep kp
  replace hf15 := hf15.keep kp
  replace hd14 := hd14.keep kp
  replace hh9 := hh9.keep kp
  replace hn14 := hn14.keep kp
  replace hf17 := hf17.keep kp
  replace hd16 := hd16.keep kp
  replace hh11 := hh11.keep kp
  replace hn16 := hn16.keep kp
  replace hh23 := hh23.keep kp
  replace hn26 := hn26.keep kp
  replace hf27 := hf27.keep kp
  replace hd26 := hd26.keep kp
  replace o3 := tu.own o3 ne3_10
  replace o4 := tu.own o4 ne4_10
  replace o5 := tu.own o5 ne5_10
  replace o8 := tu.own o8 ne8_10
  replace o9 := tu.own o9 ne9_10
  replace o11 := tu.own o11 (Ne.symm ne10_11)
  replace bel := tu.below bel ge10
  clear tu kp
  replace o10 := on
  clear on
  obtain ⟨w31, hr, tu, on⟩ := st_Rat (vs := [.bool b28, .slice ad28 n28 c28, .slice ae28 m28 d28]) o11 rfl rfl (ocB (ocS (ocS oc0))) (niB (niS (niS ni0))) (o := 0) rfl
  have kp := tu.keep o11
  refine E.st hF (r_store (hF.at 0 rfl) (hF.at 2 rfl) (hr _ rfl)) rfl rfl fun a hF => ?_
  clear hr
  replace ia1 := ia1.keep kp
  replace ib1 := ib1.keep kp
  replace ia2 := ia2.keep kp
  replace ib2 := ib2.keep kp
  replace ia3 := ia3.keep kp
  replace ib3 := ib3.keep kp
  replace hf15 := hf15.keep kp
  replace hd14 := hd14.keep kp
  replace hh9 := hh9.keep kp
  replace hn14 := hn14.keep kp
  replace hf17 := hf17.keep kp
  replace hd16 := hd16.keep kp
  replace hh11 := hh11.keep kp
  replace hn16 := hn16.keep kp
  replace hf27 := hf27.keep kp
  replace hd26 := hd26.keep kp
  replace hh23 := hh23.keep kp
  replace hn26 := hn26.keep kp
  replace hh25 := hh25.keep kp
  replace hn28 := hn28.keep kp
  replace hf29 := hf29.keep kp
  replace hd28 := hd28.keep kp
  replace o3 := tu.own o3 ne3_11
  replace o4 := tu.own o4 ne4_11
  replace o5 := tu.own o5 ne5_11
  replace o8 := tu.own o8 ne8_11
  replace o9 := tu.own o9 ne9_11
  replace o10 := tu.own o10 ne10_11
  replace bel := tu.below bel ge11
  clear tu kp
  replace o11 := on
  clear on
  refine E.nil ?_
  refine wp_seq ?_
  refine wp_seq ?_
  refine E.drawn 20 mixed hF [27, 28, 29, 30, 31, 32, 33, 34, 35, 36, 37, 38, 39, 40, 41, 42, 43, 44, 45, 46] [(fun _ v => v = .agg #[.bool b26, .slice ad26 n26 c26, .slice ae26 m26 d26]), (fun _ v => v = .agg #[.bool nega1, .slice aa1 na1 ca1, .bool negb1, .slice ab1 nb1 cb1]), (fun w v => Rr w v (((rawZ nega1 xa1 4 : Int) : Rat) / ((rawZ negb1 xb1 4 : Int) : Rat)) (4)), (fun _ v => v = .agg #[.bool nega2, .slice aa2 na2 ca2, .bool negb2, .slice ab2 nb2 cb2]), (fun w v => Rr w v (((rawZ nega2 xa2 4 : Int) : Rat) / ((rawZ negb2 xb2 4 : Int) : Rat)) (4)), (fun w v => Rr w v (rmod (((rawZ nega1 xa1 4 : Int) : Rat) / ((rawZ negb1 xb1 4 : Int) : Rat)) (((rawZ nega2 xa2 4 : Int) : Rat) / ((rawZ negb2 xb2 4 : Int) : Rat))) ((10 * 4 + 20))), (fun _ v => v = .int .i64 0), (fun _ v => v = .bool false), (fun _ v => v = .bool false), (fun _ v => v = .agg #[.bool b28, .slice ad28 n28 c28, .slice ae28 m28 d28]), (fun _ v => v = .agg #[.bool nega1, .slice aa1 na1 ca1, .bool negb1, .slice ab1 nb1 cb1]), (fun w v => Rr w v (((rawZ nega1 xa1 4 : Int) : Rat) / ((rawZ negb1 xb1 4 : Int) : Rat)) (4)), (fun _ v => v = .agg #[.bool nega2, .slice aa2 na2 ca2, .bool negb2, .slice ab2 nb2 cb2]), (fun w v => Rr w v (((rawZ nega2 xa2 4 : Int) : Rat) / ((rawZ negb2 xb2 4 : Int) : Rat)) (4)), (fun _ v => v = .agg #[.bool nega3, .slice aa3 na3 ca3, .bool negb3, .slice ab3 nb3 cb3]), (fun w v => Rr w v (((rawZ nega3 xa3 4 : Int) : Rat) / ((rawZ negb3 xb3 4 : Int) : Rat)) (4)), (fun w v => Rr w v (rinto (((rawZ nega1 xa1 4 : Int) : Rat) / ((rawZ negb1 xb1 4 : Int) : Rat)) (((rawZ nega2 xa2 4 : Int) : Rat) / ((rawZ negb2 xb2 4 : Int) : Rat)) (((rawZ nega3 xa3 4 : Int) : Rat) / ((rawZ negb3 xb3 4 : Int) : Rat))) ((50 * 4 + 100))), (fun _ v => v = .int .i64 0), (fun _ v => v = .bool false), (fun _ v => v = .bool false)] [] (by decide +kernel) (by decide +kernel) rfl rfl rfl ⟨(Mb.eq _), (Mb.eq _), (fun _ _ _ h hb => h.below hb), (Mb.eq _), (fun _ _ _ h hb => h.below hb), (fun _ _ _ h hb => h.below hb), (Mb.eq _), (Mb.eq _), (Mb.eq _), (Mb.eq _), (Mb.eq _), (fun _ _ _ h hb => h.below hb), (Mb.eq _), (fun _ _ _ h hb => h.below hb), (Mb.eq _), (fun _ _ _ h hb => h.below hb), (fun _ _ _ h hb => h.below hb), (Mb.eq _), (Mb.eq _), (Mb.eq _), trivial⟩ trivial ⟨?_, ?_, ?_, ?_, ?_, ?_, ?_, ?_, ?_, ?_, ?_, ?_, ?_, ?_, ?_, ?_, ?_, ?_, ?_, ?_, trivial⟩ ?_
  · intro a' w' hF' hb hd
    exact if_does (wanted_free rfl) (Does.vals (r_load (hF'.at 1 rfl) (ld_Rat (vs := [.bool b26, .slice ad26 n26 c26, .slice ae26 m26 d26]) (o10.below hb) rfl rfl)) ⟨rfl, Below.refl _ _, (fun h => absurd h (by decide))⟩)
  · intro a' w' hF' hb hd
    exact if_does (wanted_free rfl) (Does.vals (r_load (hF'.at 15 rfl) (ld_Raw5 (vs := [.bool nega1, .slice aa1 na1 ca1, .bool negb1, .slice ab1 nb1 cb1]) (o3.below hb) rfl rfl)) ⟨rfl, Below.refl _ _, (fun h => absurd h (by decide))⟩)
  · intro a' w' hF' hb hd
    have e28 : a'.tmps.getD 28 undef = .agg #[.bool nega1, .slice aa1 na1 ca1, .bool negb1, .slice ab1 nb1 cb1] := hd _ 28 (Array.mem_of_getElem? (i := 0) rfl) rfl rfl
    refine if_does (wanted_free rfl) (Does.calls (r_call Tryz.func11 en11.1 en11.2 (map2 e28 ev_c)) (Told5_any nega1 aa1 na1 ca1 xa1 negb1 ab1 nb1 cb1 xb1 4 _ (ia1.below hb) (ib1.below hb) (by omega) (by omega)) ?_)
    rintro e w'' ⟨v', rfl, h', bb⟩
    exact ⟨_, rfl, h', bb, (fun h => absurd h (by decide))⟩
  · intro a' w' hF' hb hd
    exact if_does (wanted_free rfl) (Does.vals (r_load (hF'.at 14 rfl) (ld_Raw5 (vs := [.bool nega2, .slice aa2 na2 ca2, .bool negb2, .slice ab2 nb2 cb2]) (o4.below hb) rfl rfl)) ⟨rfl, Below.refl _ _, (fun h => absurd h (by decide))⟩)
  · intro a' w' hF' hb hd
    have e30 : a'.tmps.getD 30 undef = .agg #[.bool nega2, .slice aa2 na2 ca2, .bool negb2, .slice ab2 nb2 cb2] := hd _ 30 (Array.mem_of_getElem? (i := 0) rfl) rfl rfl
    refine if_does (wanted_free rfl) (Does.calls (r_call Tryz.func11 en11.1 en11.2 (map2 e30 ev_c)) (Told5_any nega2 aa2 na2 ca2 xa2 negb2 ab2 nb2 cb2 xb2 4 _ (ia2.below hb) (ib2.below hb) (by omega) (by omega)) ?_)
    rintro e w'' ⟨v', rfl, h', bb⟩
    exact ⟨_, rfl, h', bb, (fun h => absurd h (by decide))⟩
  · intro a' w' hF' hb hd
    obtain ⟨v29_0, e29, h29_1⟩ : ∃ v, a'.tmps.getD 29 undef = v ∧ Rr w' v (((rawZ nega1 xa1 4 : Int) : Rat) / ((rawZ negb1 xb1 4 : Int) : Rat)) (4) := ⟨_, rfl, hd _ 29 (Array.mem_of_getElem? (i := 0) rfl) rfl rfl⟩
    obtain ⟨v31_0, e31, h31_1⟩ : ∃ v, a'.tmps.getD 31 undef = v ∧ Rr w' v (((rawZ nega2 xa2 4 : Int) : Rat) / ((rawZ negb2 xb2 4 : Int) : Rat)) (4) := ⟨_, rfl, hd _ 31 (Array.mem_of_getElem? (i := 1) rfl) rfl rfl⟩
    refine if_does (wanted_free rfl) (Does.calls (r_call Tryz.func33 en33.1 en33.2 (map2 e29 e31)) (dMod_any _ _ (((rawZ nega1 xa1 4 : Int) : Rat) / ((rawZ negb1 xb1 4 : Int) : Rat)) (((rawZ nega2 xa2 4 : Int) : Rat) / ((rawZ negb2 xb2 4 : Int) : Rat)) 4 _ h29_1 h31_1 (by omega) (by omega)) ?_)
    rintro e w'' ⟨v', rfl, h', bb⟩
    exact ⟨_, rfl, h', bb, (fun h => absurd h (by decide))⟩
  · intro a' w' hF' hb hd
    have e27 : a'.tmps.getD 27 undef = .agg #[.bool b26, .slice ad26 n26 c26, .slice ae26 m26 d26] := hd _ 27 (Array.mem_of_getElem? (i := 0) rfl) rfl rfl
    obtain ⟨v32_0, e32, h32_1⟩ : ∃ v, a'.tmps.getD 32 undef = v ∧ Rr w' v (rmod (((rawZ nega1 xa1 4 : Int) : Rat) / ((rawZ negb1 xb1 4 : Int) : Rat)) (((rawZ nega2 xa2 4 : Int) : Rat) / ((rawZ negb2 xb2 4 : Int) : Rat))) ((10 * 4 + 20)) := ⟨_, rfl, hd _ 32 (Array.mem_of_getElem? (i := 1) rfl) rfl rfl⟩
    refine if_does (wanted_free rfl) (Does.calls (r_call Tryz.func32 en32.1 en32.2 (map2 e27 e32)) (Is5_any _ _ (rmod (((rawZ nega1 xa1 4 : Int) : Rat) / ((rawZ negb1 xb1 4 : Int) : Rat)) (((rawZ nega2 xa2 4 : Int) : Rat) / ((rawZ negb2 xb2 4 : Int) : Rat))) (rmod (((rawZ nega1 xa1 4 : Int) : Rat) / ((rawZ negb1 xb1 4 : Int) : Rat)) (((rawZ nega2 xa2 4 : Int) : Rat) / ((rawZ negb2 xb2 4 : Int) : Rat))) (4 + 4 + 4 + 4 + 3) (10 * 4 + 20) _ (hh23.below hb) h32_1 (rmod_lim (k := 4) (j := 4) (own5_lim nega1 negb1 oka1 okb1 4 (by decide)) (own5_lim nega2 negb2 oka2 okb2 4 (by decide))) rfl (by omega) (by omega)) ?_)
    rintro e w'' ⟨rfl, bb⟩
    exact ⟨_, rfl, rfl, bb, (fun h => absurd h (by decide))⟩
  · intro a' w' hF' hb hd
    have e33 : a'.tmps.getD 33 undef = .int .i64 0 := hd _ 33 (Array.mem_of_getElem? (i := 0) rfl) rfl rfl
    exact if_does (wanted_free rfl) (Does.vals (r_bin e33 ev_c eg_scalar (bi_int (ic_neq (c := false) (by decide)) (by simp))) ⟨rfl, Below.refl _ _, (fun h => absurd h (by decide))⟩)
  · intro a' w' hF' hb hd
    have e34 : a'.tmps.getD 34 undef = .bool false := hd _ 34 (Array.mem_of_getElem? (i := 0) rfl) rfl rfl
    exact if_does (wanted_free rfl) (Does.vals (r_move e34) ⟨rfl, Below.refl _ _, (fun h => absurd h (by decide))⟩)
  · intro a' w' hF' hb hd
    have e35 : a'.tmps.getD 35 undef = .bool false := hd _ 35 (Array.mem_of_getElem? (i := 0) rfl) rfl rfl
    exact if_does (wanted_by rfl rfl e35 rfl) (Does.vals (r_load (hF'.at 0 rfl) (ld_Rat (vs := [.bool b28, .slice ad28 n28 c28, .slice ae28 m28 d28]) (o11.below hb) rfl rfl)) ⟨rfl, Below.refl _ _, (fun h => absurd h (by decide))⟩)
  · intro a' w' hF' hb hd
    have e35 : a'.tmps.getD 35 undef = .bool false := hd _ 35 (Array.mem_of_getElem? (i := 0) rfl) rfl rfl
    exact if_does (wanted_by rfl rfl e35 rfl) (Does.vals (r_load (hF'.at 15 rfl) (ld_Raw5 (vs := [.bool nega1, .slice aa1 na1 ca1, .bool negb1, .slice ab1 nb1 cb1]) (o3.below hb) rfl rfl)) ⟨rfl, Below.refl _ _, (fun h => absurd h (by decide))⟩)
  · intro a' w' hF' hb hd
    have e35 : a'.tmps.getD 35 undef = .bool false := hd _ 35 (Array.mem_of_getElem? (i := 1) rfl) rfl rfl
    have e37 : a'.tmps.getD 37 undef = .agg #[.bool nega1, .slice aa1 na1 ca1, .bool negb1, .slice ab1 nb1 cb1] := hd _ 37 (Array.mem_of_getElem? (i := 0) rfl) rfl rfl
    refine if_does (wanted_by rfl rfl e35 rfl) (Does.calls (r_call Tryz.func11 en11.1 en11.2 (map2 e37 ev_c)) (Told5_any nega1 aa1 na1 ca1 xa1 negb1 ab1 nb1 cb1 xb1 4 _ (ia1.below hb) (ib1.below hb) (by omega) (by omega)) ?_)
    rintro e w'' ⟨v', rfl, h', bb⟩
    exact ⟨_, rfl, h', bb, (fun h => absurd h (by decide))⟩
  · intro a' w' hF' hb hd
    have e35 : a'.tmps.getD 35 undef = .bool false := hd _ 35 (Array.mem_of_getElem? (i := 0) rfl) rfl rfl
    exact if_does (wanted_by rfl rfl e35 rfl) (Does.vals (r_load (hF'.at 14 rfl) (ld_Raw5 (vs := [.bool nega2, .slice aa2 na2 ca2, .bool negb2, .slice ab2 nb2 cb2]) (o4.below hb) rfl rfl)) ⟨rfl, Below.refl _ _, (fun h => absurd h (by decide))⟩)
  · intro a' w' hF' hb hd
    have e35 : a'.tmps.getD 35 undef = .bool false := hd _ 35 (Array.mem_of_getElem? (i := 2) rfl) rfl rfl
    have e39 : a'.tmps.getD 39 undef = .agg #[.bool nega2, .slice aa2 na2 ca2, .bool negb2, .slice ab2 nb2 cb2] := hd _ 39 (Array.mem_of_getElem? (i := 0) rfl) rfl rfl
    refine if_does (wanted_by rfl rfl e35 rfl) (Does.calls (r_call Tryz.func11 en11.1 en11.2 (map2 e39 ev_c)) (Told5_any nega2 aa2 na2 ca2 xa2 negb2 ab2 nb2 cb2 xb2 4 _ (ia2.below hb) (ib2.below hb) (by omega) (by omega)) ?_)
    rintro e w'' ⟨v', rfl, h', bb⟩
    exact ⟨_, rfl, h', bb, (fun h => absurd h (by decide))⟩
  · intro a' w' hF' hb hd
    have e35 : a'.tmps.getD 35 undef = .bool false := hd _ 35 (Array.mem_of_getElem? (i := 0) rfl) rfl rfl
    exact if_does (wanted_by rfl rfl e35 rfl) (Does.vals (r_load (hF'.at 13 rfl) (ld_Raw5 (vs := [.bool nega3, .slice aa3 na3 ca3, .bool negb3, .slice ab3 nb3 cb3]) (o5.below hb) rfl rfl)) ⟨rfl, Below.refl _ _, (fun h => absurd h (by decide))⟩)
  · intro a' w' hF' hb hd
    have e35 : a'.tmps.getD 35 undef = .bool false := hd _ 35 (Array.mem_of_getElem? (i := 2) rfl) rfl rfl
    have e41 : a'.tmps.getD 41 undef = .agg #[.bool nega3, .slice aa3 na3 ca3, .bool negb3, .slice ab3 nb3 cb3] := hd _ 41 (Array.mem_of_getElem? (i := 0) rfl) rfl rfl
    refine if_does (wanted_by rfl rfl e35 rfl) (Does.calls (r_call Tryz.func11 en11.1 en11.2 (map2 e41 ev_c)) (Told5_any nega3 aa3 na3 ca3 xa3 negb3 ab3 nb3 cb3 xb3 4 _ (ia3.below hb) (ib3.below hb) (by omega) (by omega)) ?_)
    rintro e w'' ⟨v', rfl, h', bb⟩
    exact ⟨_, rfl, h', bb, (fun h => absurd h (by decide))⟩
  · intro a' w' hF' hb hd
    have e35 : a'.tmps.getD 35 undef = .bool false := hd _ 35 (Array.mem_of_getElem? (i := 4) rfl) rfl rfl
    obtain ⟨v38_0, e38, h38_1⟩ : ∃ v, a'.tmps.getD 38 undef = v ∧ Rr w' v (((rawZ nega1 xa1 4 : Int) : Rat) / ((rawZ negb1 xb1 4 : Int) : Rat)) (4) := ⟨_, rfl, hd _ 38 (Array.mem_of_getElem? (i := 0) rfl) rfl rfl⟩
    obtain ⟨v40_0, e40, h40_1⟩ : ∃ v, a'.tmps.getD 40 undef = v ∧ Rr w' v (((rawZ nega2 xa2 4 : Int) : Rat) / ((rawZ negb2 xb2 4 : Int) : Rat)) (4) := ⟨_, rfl, hd _ 40 (Array.mem_of_getElem? (i := 1) rfl) rfl rfl⟩
    obtain ⟨v42_0, e42, h42_1⟩ : ∃ v, a'.tmps.getD 42 undef = v ∧ Rr w' v (((rawZ nega3 xa3 4 : Int) : Rat) / ((rawZ negb3 xb3 4 : Int) : Rat)) (4) := ⟨_, rfl, hd _ 42 (Array.mem_of_getElem? (i := 2) rfl) rfl rfl⟩
    refine if_does (wanted_by rfl rfl e35 rfl) (Does.calls (r_call Tryz.func34 en34.1 en34.2 (map3 e38 e40 e42)) (dInto_any _ _ _ (((rawZ nega1 xa1 4 : Int) : Rat) / ((rawZ negb1 xb1 4 : Int) : Rat)) (((rawZ nega2 xa2 4 : Int) : Rat) / ((rawZ negb2 xb2 4 : Int) : Rat)) (((rawZ nega3 xa3 4 : Int) : Rat) / ((rawZ negb3 xb3 4 : Int) : Rat)) 4 _ h38_1 h40_1 h42_1 (by omega) (by omega)) ?_)
    rintro e w'' ⟨v', rfl, h', bb⟩
    exact ⟨_, rfl, h', bb, (fun h => absurd h (by decide))⟩
  · intro a' w' hF' hb hd
    have e35 : a'.tmps.getD 35 undef = .bool false := hd _ 35 (Array.mem_of_getElem? (i := 3) rfl) rfl rfl
    have e36 : a'.tmps.getD 36 undef = .agg #[.bool b28, .slice ad28 n28 c28, .slice ae28 m28 d28] := hd _ 36 (Array.mem_of_getElem? (i := 0) rfl) rfl rfl
    obtain ⟨v43_0, e43, h43_1⟩ : ∃ v, a'.tmps.getD 43 undef = v ∧ Rr w' v (rinto (((rawZ nega1 xa1 4 : Int) : Rat) / ((rawZ negb1 xb1 4 : Int) : Rat)) (((rawZ nega2 xa2 4 : Int) : Rat) / ((rawZ negb2 xb2 4 : Int) : Rat)) (((rawZ nega3 xa3 4 : Int) : Rat) / ((rawZ negb3 xb3 4 : Int) : Rat))) ((50 * 4 + 100)) := ⟨_, rfl, hd _ 43 (Array.mem_of_getElem? (i := 1) rfl) rfl rfl⟩
    refine if_does (wanted_by rfl rfl e35 rfl) (Does.calls (r_call Tryz.func32 en32.1 en32.2 (map2 e36 e43)) (Is5_any _ _ (rinto (((rawZ nega1 xa1 4 : Int) : Rat) / ((rawZ negb1 xb1 4 : Int) : Rat)) (((rawZ nega2 xa2 4 : Int) : Rat) / ((rawZ negb2 xb2 4 : Int) : Rat)) (((rawZ nega3 xa3 4 : Int) : Rat) / ((rawZ negb3 xb3 4 : Int) : Rat))) (rinto (((rawZ nega1 xa1 4 : Int) : Rat) / ((rawZ negb1 xb1 4 : Int) : Rat)) (((rawZ nega2 xa2 4 : Int) : Rat) / ((rawZ negb2 xb2 4 : Int) : Rat)) (((rawZ nega3 xa3 4 : Int) : Rat) / ((rawZ negb3 xb3 4 : Int) : Rat))) (2 * 4 + 5 * 4 + 2 * 4 + 8) (50 * 4 + 100) _ (hh25.below hb) h43_1 (rinto_lim (k := 4) (j := 4) (i := 4) (own5_lim nega1 negb1 oka1 okb1 4 (by decide)) (own5_lim nega2 negb2 oka2 okb2 4 (by decide)) (own5_lim nega3 negb3 oka3 okb3 4 (by decide))) rfl (by omega) (by omega)) ?_)
    rintro e w'' ⟨rfl, bb⟩
    exact ⟨_, rfl, rfl, bb, (fun h => absurd h (by decide))⟩
  · intro a' w' hF' hb hd
    have e35 : a'.tmps.getD 35 undef = .bool false := hd _ 35 (Array.mem_of_getElem? (i := 1) rfl) rfl rfl
    have e44 : a'.tmps.getD 44 undef = .int .i64 0 := hd _ 44 (Array.mem_of_getElem? (i := 0) rfl) rfl rfl
    exact if_does (wanted_by rfl rfl e35 rfl) (Does.vals (r_bin e44 ev_c eg_scalar (bi_int (ic_neq (c := false) (by decide)) (by simp))) ⟨rfl, Below.refl _ _, (fun h => absurd h (by decide))⟩)
  · intro a' w' hF' hb hd
    have e35 : a'.tmps.getD 35 undef = .bool false := hd _ 35 (Array.mem_of_getElem? (i := 0) rfl) rfl rfl
    have e45 : a'.tmps.getD 45 undef = .bool false := hd _ 45 (Array.mem_of_getElem? (i := 1) rfl) rfl rfl
    exact if_does (wanted_free rfl) (Does.vals (r_pick_f e35 e45) ⟨rfl, Below.refl _ _, (fun h => absurd h (by decide))⟩)
  intro a w32 hF bb hall hne
  have e46 : a.tmps.getD 46 undef = .bool false := hall 19 46 rfl
  clear hall hne
  replace hf15 := hf15.below bb
  replace hd14 := hd14.below bb
  replace hh9 := hh9.below bb
  replace hn14 := hn14.below bb
  replace hf17 := hf17.below bb
  replace hd16 := hd16.below bb
  replace hh11 := hh11.below bb
  replace hn16 := hn16.below bb
  replace hf27 := hf27.below bb
  replace hd26 := hd26.below bb
  replace hh23 := hh23.below bb
  replace hn26 := hn26.below bb
  replace hf29 := hf29.below bb
  replace hd28 := hd28.below bb
  replace hh25 := hh25.below bb
  replace hn28 := hn28.below bb
  replace o8 := o8.below bb
  replace o9 := o9.below bb
  replace o10 := o10.below bb
  replace o11 := o11.below bb
  replace bel := below_to bel bb
  clear bb
  replace hF := hF.add e46
  clear e46
  refine E.nil ?_
  refine wp_cond_false (hF.at 0 rfl) ?_
  refine wp_skip ?_
  refine E.norm ?_
  refine wp_seq ?_
  refine wp_seq ?_
  refine E.seq ?_
  refine E.opv hF (r_load (hF.at 6 rfl) (ld_Rat (vs := [.bool b14, .slice ad14 n14 c14, .slice ae14 m14 d14]) o8 rfl rfl)) rfl rfl rfl rfl fun a hF => ?_
  refine E.call hF (r_call Tryz.func35 en35.1 en35.2 (map1 (hF.at 0 rfl))) (rsgn_any _ (((rawZ nega2 xa2 4 : Int) : Rat) / ((rawZ negb2 xb2 4 : Int) : Rat)) _ hh9) rfl rfl rfl rfl ?_
  rintro e w33 ⟨rfl, bb⟩
  refine ⟨_, rfl, ?_⟩
  intro a hF
  replace hf15 := hf15.below bb
  replace hd14 := hd14.below bb
  replace hh9 := hh9.below bb
  replace hn14 := hn14.below bb
  replace hf17 := hf17.below bb
  replace hd16 := hd16.below bb
  replace hh11 := hh11.below bb
  replace hn16 := hn16.below bb
  replace hf27 := hf27.below bb
  replace hd26 := hd26.below bb
  replace hh23 := hh23.below bb
  replace hn26 := hn26.below bb
  replace hf29 := hf29.below bb
  replace hd28 := hd28.below bb
  replace hh25 := hh25.below bb
  replace hn28 := hn28.below bb
  replace o8 := o8.below bb
  replace o9 := o9.below bb
  replace o10 := o10.below bb
  replace o11 := o11.below bb
  replace bel := below_to bel bb
  clear bb
  by_cases hc34 : 0 < sz (Rat.num (((rawZ nega2 xa2 4 : Int) : Rat) / ((rawZ negb2 xb2 4 : Int) : Rat)))
  · refine E.opv hF (r_bin (hF.at 0 rfl) ev_c eg_scalar (bi_int (ic_gtr (c := true) (dec_tt hc34)) (by simp))) rfl rfl rfl rfl fun a hF => ?_
    refine E.opv hF (r_move (hF.at 0 rfl)) rfl rfl rfl rfl fun a hF => ?_
    refine E.opvg hF (r_load (hF.at 6 rfl) (ld_Rat (vs := [.bool b26, .slice ad26 n26 c26, .slice ae26 m26 d26]) o10 rfl rfl)) (wanted_by rfl rfl (hF.at 0 rfl) rfl) rfl rfl rfl fun a hF => ?_
    refine E.callg hF (r_call Tryz.func35 en35.1 en35.2 (map1 (hF.at 0 rfl))) (rsgn_any _ (rmod (((rawZ nega1 xa1 4 : Int) : Rat) / ((rawZ negb1 xb1 4 : Int) : Rat)) (((rawZ nega2 xa2 4 : Int) : Rat) / ((rawZ negb2 xb2 4 : Int) : Rat))) _ hh23) (wanted_by rfl rfl (hF.at 1 rfl) rfl) rfl rfl rfl ?_
    rintro e w35 ⟨rfl, bb⟩
    refine ⟨_, rfl, ?_⟩
    intro a hF
    replace hf15 := hf15.below bb
    replace hd14 := hd14.below bb
    replace hh9 := hh9.below bb
    replace hn14 := hn14.below bb
    replace hf17 := hf17.below bb
    replace hd16 := hd16.below bb
    replace hh11 := hh11.below bb
    replace hn16 := hn16.below bb
    replace hf27 := hf27.below bb
    replace hd26 := hd26.below bb
    replace hh23 := hh23.below bb
    replace hn26 := hn26.below bb
    replace hf29 := hf29.below bb
    replace hd28 := hd28.below bb
    replace hh25 := hh25.below bb
    replace hn28 := hn28.below bb
    replace o8 := o8.below bb
    replace o9 := o9.below bb
    replace o10 := o10.below bb
    replace o11 := o11.below bb
    replace bel := below_to bel bb
    clear bb
    refine E.opvg hF (r_bin (hF.at 0 rfl) ev_c eg_scalar (bi_int (ic_lss (c := false) (dec_ff (sz_nn (rmod_low (sz_pos.1 (by assumption)))))) (by simp))) (wanted_by rfl rfl (hF.at 2 rfl) rfl) rfl rfl rfl fun a hF => ?_
    refine E.opvg hF (r_move (hF.at 0 rfl)) (wanted_by rfl rfl (hF.at 3 rfl) rfl) rfl rfl rfl fun a hF => ?_
    refine E.opvg hF (r_load (hF.at 10 rfl) (ld_Rat (vs := [.bool b26, .slice ad26 n26 c26, .slice ae26 m26 d26]) o10 rfl rfl)) (wanted_by rfl rfl (hF.at 0 rfl) rfl) rfl rfl rfl fun a hF => ?_
    refine E.opvg hF (r_load (hF.at 15 rfl) (ld_Rat (vs := [.bool b14, .slice ad14 n14 c14, .slice ae14 m14 d14]) o8 rfl rfl)) (wanted_by rfl rfl (hF.at 1 rfl) rfl) rfl rfl rfl fun a hF => ?_
    refine E.callg hF (r_call Tryz.func22 en22.1 en22.2 (map2 (hF.at 1 rfl) (hF.at 0 rfl))) (rCmp_any _ _ (rmod (((rawZ nega1 xa1 4 : Int) : Rat) / ((rawZ negb1 xb1 4 : Int) : Rat)) (((rawZ nega2 xa2 4 : Int) : Rat) / ((rawZ negb2 xb2 4 : Int) : Rat))) (((rawZ nega2 xa2 4 : Int) : Rat) / ((rawZ negb2 xb2 4 : Int) : Rat)) (max (4 + 4 + 4 + 4 + 3) 4) _ hh23 hh9 ((rmod_lim (k := 4) (j := 4) (own5_lim nega1 negb1 oka1 okb1 4 (by decide)) (own5_lim nega2 negb2 oka2 okb2 4 (by decide))).up _ (by omega)) ((own5_lim nega2 negb2 oka2 okb2 4 (by decide)).up _ (by omega)) (by omega)) (wanted_by rfl rfl (hF.at 2 rfl) rfl) rfl rfl rfl ?_
    rintro e w36 ⟨rfl, bb⟩
    refine ⟨_, rfl, ?_⟩
    intro a hF
    replace hf15 := hf15.below bb
    replace hd14 := hd14.below bb
    replace hh9 := hh9.below bb
    replace hn14 := hn14.below bb
    replace hf17 := hf17.below bb
    replace hd16 := hd16.below bb
    replace hh11 := hh11.below bb
    replace hn16 := hn16.below bb
    replace hf29 := hf29.below bb
    replace hd28 := hd28.below bb
    replace hh25 := hh25.below bb
    replace hn28 := hn28.below bb
    replace o8 := o8.below bb
    replace o9 := o9.below bb
    replace o11 := o11.below bb
    replace bel := below_to bel bb
    clear bb
    refine E.opvg hF (r_bin (hF.at 0 rfl) ev_c eg_scalar (bi_int (ic_geq (c := false) (dec_ff (fun e => Rat.not_le.2 (rmod_high (sz_pos.1 (by assumption))) (qc_0le.1 e)))) (by simp))) (wanted_by rfl rfl (hF.at 3 rfl) rfl) rfl rfl rfl fun a hF => ?_
    refine E.opvg hF (r_pick_f (hF.at 4 rfl) (hF.at 0 rfl)) (wanted_by rfl rfl (hF.at 8 rfl) rfl) rfl rfl rfl fun a hF => ?_
    refine E.opv hF (r_pick_t (hF.at 9 rfl) (hF.at 0 rfl)) rfl rfl rfl rfl fun a hF => ?_
    refine E.nil ?_
    refine wp_cond_false (hF.at 0 rfl) ?_
    refine wp_skip ?_
    refine E.norm ?_
    refine wp_seq ?_
    refine E.seq ?_
    refine E.opv hF (r_load (hF.at 20 rfl) (ld_Rat (vs := [.bool b14, .slice ad14 n14 c14, .slice ae14 m14 d14]) o8 rfl rfl)) rfl rfl rfl rfl fun a hF => ?_
    refine E.opv hF (r_load (hF.at 20 rfl) (ld_Rat (vs := [.bool b16, .slice ad16 n16 c16, .slice ae16 m16 d16]) o9 rfl rfl)) rfl rfl rfl rfl fun a hF => ?_
    refine E.call hF (r_call Tryz.func22 en22.1 en22.2 (map2 (hF.at 1 rfl) (hF.at 0 rfl))) (rCmp_any _ _ (((rawZ nega2 xa2 4 : Int) : Rat) / ((rawZ negb2 xb2 4 : Int) : Rat)) (((rawZ nega3 xa3 4 : Int) : Rat) / ((rawZ negb3 xb3 4 : Int) : Rat)) 4 _ hh9 hh11 ((own5_lim nega2 negb2 oka2 okb2 4 (by decide)).up _ (by omega)) ((own5_lim nega3 negb3 oka3 okb3 4 (by decide)).up _ (by omega)) (by omega)) rfl rfl rfl rfl ?_
    rintro e w37 ⟨rfl, bb⟩
    refine ⟨_, rfl, ?_⟩
    intro a hF
    replace hf15 := hf15.below bb
    replace hd14 := hd14.below bb
    replace hh9 := hh9.below bb
    replace hn14 := hn14.below bb
    replace hf17 := hf17.below bb
    replace hd16 := hd16.below bb
    replace hh11 := hh11.below bb
    replace hn16 := hn16.below bb
    replace hf29 := hf29.below bb
    replace hd28 := hd28.below bb
    replace hh25 := hh25.below bb
    replace hn28 := hn28.below bb
    replace o8 := o8.below bb
    replace o9 := o9.below bb
    replace o11 := o11.below bb
    replace bel := below_to bel bb
    clear bb
    by_cases hc38 : 0 ≤ qc (((rawZ nega2 xa2 4 : Int) : Rat) / ((rawZ negb2 xb2 4 : Int) : Rat)) (((rawZ nega3 xa3 4 : Int) : Rat) / ((rawZ negb3 xb3 4 : Int) : Rat))
    · refine E.opv hF (r_bin (hF.at 0 rfl) ev_c eg_scalar (bi_int (ic_geq (c := true) (dec_tt hc38)) (by simp))) rfl rfl rfl rfl fun a hF => ?_
      refine E.opv hF (r_move (hF.at 0 rfl)) rfl rfl rfl rfl fun a hF => ?_
      refine E.unwanted hF (wanted_by rfl rfl (hF.at 0 rfl) rfl) rfl rfl rfl fun a hF => ?_
      refine E.unwanted hF (wanted_by rfl rfl (hF.at 1 rfl) rfl) rfl rfl rfl fun a hF => ?_
      refine E.unwanted hF (wanted_by rfl rfl (hF.at 2 rfl) rfl) rfl rfl rfl fun a hF => ?_
      refine E.unwanted hF (wanted_by rfl rfl (hF.at 3 rfl) rfl) rfl rfl rfl fun a hF => ?_
      refine E.unwanted hF (wanted_by rfl rfl (hF.at 4 rfl) rfl) rfl rfl rfl fun a hF => ?_
      refine E.unwanted hF (wanted_undef rfl rfl (hF.at 0 rfl)) rfl rfl rfl fun a hF => ?_
      refine E.unwanted hF (wanted_undef rfl rfl (hF.at 1 rfl)) rfl rfl rfl fun a hF => ?_
      refine E.unwanted hF (wanted_undef rfl rfl (hF.at 2 rfl)) rfl rfl rfl fun a hF => ?_
      refine E.unwanted hF (wanted_undef rfl rfl (hF.at 3 rfl)) rfl rfl rfl fun a hF => ?_
      refine E.unwanted hF (wanted_by rfl rfl (hF.at 9 rfl) rfl) rfl rfl rfl fun a hF => ?_
      refine E.opv hF (r_pick_t (hF.at 10 rfl) ev_c) rfl rfl rfl rfl fun a hF => ?_
      refine E.opset (L' := [(6, .bool true), (76, .bool true), (75, undef), (74, undef), (73, undef), (72, undef), (71, undef), (70, undef), (69, undef), (68, undef), (67, undef), (66, undef), (65, .bool true), (64, .bool true), (63, .int .i64 (qc (((rawZ nega2 xa2 4 : Int) : Rat) / ((rawZ negb2 xb2 4 : Int) : Rat)) (((rawZ nega3 xa3 4 : Int) : Rat) / ((rawZ negb3 xb3 4 : Int) : Rat)))), (62, .agg #[.bool b16, .slice ad16 n16 c16, .slice ae16 m16 d16]), (61, .agg #[.bool b14, .slice ad14 n14 c14, .slice ae14 m14 d14]), (60, .bool false), (59, .bool false), (58, .bool false), (57, .int .i64 (qc (rmod (((rawZ nega1 xa1 4 : Int) : Rat) / ((rawZ negb1 xb1 4 : Int) : Rat)) (((rawZ nega2 xa2 4 : Int) : Rat) / ((rawZ negb2 xb2 4 : Int) : Rat))) (((rawZ nega2 xa2 4 : Int) : Rat) / ((rawZ negb2 xb2 4 : Int) : Rat)))), (56, .agg #[.bool b14, .slice ad14 n14 c14, .slice ae14 m14 d14]), (55, .agg #[.bool b26, .slice ad26 n26 c26, .slice ae26 m26 d26]), (54, .bool false), (53, .bool false), (52, .int .i64 (sz (Rat.num (rmod (((rawZ nega1 xa1 4 : Int) : Rat) / ((rawZ negb1 xb1 4 : Int) : Rat)) (((rawZ nega2 xa2 4 : Int) : Rat) / ((rawZ negb2 xb2 4 : Int) : Rat)))))), (51, .agg #[.bool b26, .slice ad26 n26 c26, .slice ae26 m26 d26]), (50, .bool true), (49, .bool true), (48, .int .i64 (sz (Rat.num (((rawZ nega2 xa2 4 : Int) : Rat) / ((rawZ negb2 xb2 4 : Int) : Rat))))), (47, .agg #[.bool b14, .slice ad14 n14 c14, .slice ae14 m14 d14]), (46, .bool false), (11, .pointer (some ⟨g11, 0, none⟩)), (10, .pointer (some ⟨g10, 0, none⟩)), (26, .agg #[.bool b28, .slice ad28 n28 c28, .slice ae28 m28 d28]), (22, .agg #[.bool b26, .slice ad26 n26 c26, .slice ae26 m26 d26]), (9, .pointer (some ⟨g9, 0, none⟩)), (8, .pointer (some ⟨g8, 0, none⟩)), (7, .pointer (some ⟨g7, 0, none⟩)), (19, .agg #[.bool b16, .slice ad16 n16 c16, .slice ae16 m16 d16]), (17, .agg #[.bool b14, .slice ad14 n14 c14, .slice ae14 m14 d14]), (15, .agg #[.bool b12, .slice ad12 n12 c12, .slice ae12 m12 d12]), (13, .bool false), (12, .bool true), (5, .pointer (some ⟨g5, 0, none⟩)), (4, .pointer (some ⟨g4, 0, none⟩)), (3, .pointer (some ⟨g3, 0, none⟩)), (0, .agg #[.bool nega1, .slice aa1 na1 ca1, .bool negb1, .slice ab1 nb1 cb1]), (1, .agg #[.bool nega2, .slice aa2 na2 ca2, .bool negb2, .slice ab2 nb2 cb2]), (2, .agg #[.bool nega3, .slice aa3 na3 ca3, .bool negb3, .slice ab3 nb3 cb3])]) hF (r_assign (hF.at 0 rfl)) rfl rfl rfl rfl fun a hF => ?_
      refine E.nil ?_
      refine wp_ret ?_
      refine bodyPost_ret (res_tmp Tryz.results4 (hF.at 0 rfl)) hF.dfr ?_
      exact ⟨rfl, bel⟩
    · refine E.opv hF (r_bin (hF.at 0 rfl) ev_c eg_scalar (bi_int (ic_geq (c := false) (dec_ff hc38)) (by simp))) rfl rfl rfl rfl fun a hF => ?_
      refine E.opv hF (r_move (hF.at 0 rfl)) rfl rfl rfl rfl fun a hF => ?_
      refine E.opvg hF (r_load (hF.at 20 rfl) (ld_Rat (vs := [.bool b28, .slice ad28 n28 c28, .slice ae28 m28 d28]) o11 rfl rfl)) (wanted_by rfl rfl (hF.at 0 rfl) rfl) rfl rfl rfl fun a hF => ?_
      refine E.opvg hF (r_load (hF.at 26 rfl) (ld_Rat (vs := [.bool b14, .slice ad14 n14 c14, .slice ae14 m14 d14]) o8 rfl rfl)) (wanted_by rfl rfl (hF.at 1 rfl) rfl) rfl rfl rfl fun a hF => ?_
      refine E.callg hF (r_call Tryz.func22 en22.1 en22.2 (map2 (hF.at 1 rfl) (hF.at 0 rfl))) (rCmp_any _ _ (rinto (((rawZ nega1 xa1 4 : Int) : Rat) / ((rawZ negb1 xb1 4 : Int) : Rat)) (((rawZ nega2 xa2 4 : Int) : Rat) / ((rawZ negb2 xb2 4 : Int) : Rat)) (((rawZ nega3 xa3 4 : Int) : Rat) / ((rawZ negb3 xb3 4 : Int) : Rat))) (((rawZ nega2 xa2 4 : Int) : Rat) / ((rawZ negb2 xb2 4 : Int) : Rat)) (max (2 * 4 + 5 * 4 + 2 * 4 + 8) 4) _ hh25 hh9 ((rinto_lim (k := 4) (j := 4) (i := 4) (own5_lim nega1 negb1 oka1 okb1 4 (by decide)) (own5_lim nega2 negb2 oka2 okb2 4 (by decide)) (own5_lim nega3 negb3 oka3 okb3 4 (by decide))).up _ (by omega)) ((own5_lim nega2 negb2 oka2 okb2 4 (by decide)).up _ (by omega)) (by omega)) (wanted_by rfl rfl (hF.at 2 rfl) rfl) rfl rfl rfl ?_
      rintro e w39 ⟨rfl, bb⟩
      refine ⟨_, rfl, ?_⟩
      intro a hF
      replace hf17 := hf17.below bb
      replace hd16 := hd16.below bb
      replace hh11 := hh11.below bb
      replace hn16 := hn16.below bb
      replace hf29 := hf29.below bb
      replace hd28 := hd28.below bb
      replace hh25 := hh25.below bb
      replace hn28 := hn28.below bb
      replace o9 := o9.below bb
      replace o11 := o11.below bb
      replace bel := below_to bel bb
      clear bb
      refine E.opvg hF (r_bin (hF.at 0 rfl) ev_c eg_scalar (bi_int (ic_geq (c := true) (dec_tt (qc_0le.2 (rinto_low (qc_lt.1 (Int.not_le.1 (by assumption))))))) (by simp))) (wanted_by rfl rfl (hF.at 3 rfl) rfl) rfl rfl rfl fun a hF => ?_
      refine E.opvg hF (r_move (hF.at 0 rfl)) (wanted_by rfl rfl (hF.at 4 rfl) rfl) rfl rfl rfl fun a hF => ?_
      refine E.opvg hF (r_load (hF.at 25 rfl) (ld_Rat (vs := [.bool b28, .slice ad28 n28 c28, .slice ae28 m28 d28]) o11 rfl rfl)) (wanted_by rfl rfl (hF.at 0 rfl) rfl) rfl rfl rfl fun a hF => ?_
      refine E.opvg hF (r_load (hF.at 30 rfl) (ld_Rat (vs := [.bool b16, .slice ad16 n16 c16, .slice ae16 m16 d16]) o9 rfl rfl)) (wanted_by rfl rfl (hF.at 1 rfl) rfl) rfl rfl rfl fun a hF => ?_
      refine E.callg hF (r_call Tryz.func22 en22.1 en22.2 (map2 (hF.at 1 rfl) (hF.at 0 rfl))) (rCmp_any _ _ (rinto (((rawZ nega1 xa1 4 : Int) : Rat) / ((rawZ negb1 xb1 4 : Int) : Rat)) (((rawZ nega2 xa2 4 : Int) : Rat) / ((rawZ negb2 xb2 4 : Int) : Rat)) (((rawZ nega3 xa3 4 : Int) : Rat) / ((rawZ negb3 xb3 4 : Int) : Rat))) (((rawZ nega3 xa3 4 : Int) : Rat) / ((rawZ negb3 xb3 4 : Int) : Rat)) (max (2 * 4 + 5 * 4 + 2 * 4 + 8) 4) _ hh25 hh11 ((rinto_lim (k := 4) (j := 4) (i := 4) (own5_lim nega1 negb1 oka1 okb1 4 (by decide)) (own5_lim nega2 negb2 oka2 okb2 4 (by decide)) (own5_lim nega3 negb3 oka3 okb3 4 (by decide))).up _ (by omega)) ((own5_lim nega3 negb3 oka3 okb3 4 (by decide)).up _ (by omega)) (by omega)) (wanted_by rfl rfl (hF.at 2 rfl) rfl) rfl rfl rfl ?_
      rintro e w40 ⟨rfl, bb⟩
      refine ⟨_, rfl, ?_⟩
      intro a hF
      replace bel := below_to bel bb
      clear bb
      refine E.opvg hF (r_bin (hF.at 0 rfl) ev_c eg_scalar (bi_int (ic_lss (c := true) (dec_tt (qc_lt.2 (rinto_high (qc_lt.1 (Int.not_le.1 (by assumption))))))) (by simp))) (wanted_by rfl rfl (hF.at 3 rfl) rfl) rfl rfl rfl fun a hF => ?_
      refine E.opvg hF (r_pick_t (hF.at 4 rfl) (hF.at 0 rfl)) (wanted_by rfl rfl (hF.at 9 rfl) rfl) rfl rfl rfl fun a hF => ?_
      refine E.opv hF (r_pick_f (hF.at 10 rfl) (hF.at 0 rfl)) rfl rfl rfl rfl fun a hF => ?_
      refine E.opset (L' := [(6, .bool true), (76, .bool true), (75, .bool true), (74, .bool true), (73, .int .i64 (qc (rinto (((rawZ nega1 xa1 4 : Int) : Rat) / ((rawZ negb1 xb1 4 : Int) : Rat)) (((rawZ nega2 xa2 4 : Int) : Rat) / ((rawZ negb2 xb2 4 : Int) : Rat)) (((rawZ nega3 xa3 4 : Int) : Rat) / ((rawZ negb3 xb3 4 : Int) : Rat))) (((rawZ nega3 xa3 4 : Int) : Rat) / ((rawZ negb3 xb3 4 : Int) : Rat)))), (72, .agg #[.bool b16, .slice ad16 n16 c16, .slice ae16 m16 d16]), (71, .agg #[.bool b28, .slice ad28 n28 c28, .slice ae28 m28 d28]), (70, .bool true), (69, .bool true), (68, .int .i64 (qc (rinto (((rawZ nega1 xa1 4 : Int) : Rat) / ((rawZ negb1 xb1 4 : Int) : Rat)) (((rawZ nega2 xa2 4 : Int) : Rat) / ((rawZ negb2 xb2 4 : Int) : Rat)) (((rawZ nega3 xa3 4 : Int) : Rat) / ((rawZ negb3 xb3 4 : Int) : Rat))) (((rawZ nega2 xa2 4 : Int) : Rat) / ((rawZ negb2 xb2 4 : Int) : Rat)))), (67, .agg #[.bool b14, .slice ad14 n14 c14, .slice ae14 m14 d14]), (66, .agg #[.bool b28, .slice ad28 n28 c28, .slice ae28 m28 d28]), (65, .bool false), (64, .bool false), (63, .int .i64 (qc (((rawZ nega2 xa2 4 : Int) : Rat) / ((rawZ negb2 xb2 4 : Int) : Rat)) (((rawZ nega3 xa3 4 : Int) : Rat) / ((rawZ negb3 xb3 4 : Int) : Rat)))), (62, .agg #[.bool b16, .slice ad16 n16 c16, .slice ae16 m16 d16]), (61, .agg #[.bool b14, .slice ad14 n14 c14, .slice ae14 m14 d14]), (60, .bool false), (59, .bool false), (58, .bool false), (57, .int .i64 (qc (rmod (((rawZ nega1 xa1 4 : Int) : Rat) / ((rawZ negb1 xb1 4 : Int) : Rat)) (((rawZ nega2 xa2 4 : Int) : Rat) / ((rawZ negb2 xb2 4 : Int) : Rat))) (((rawZ nega2 xa2 4 : Int) : Rat) / ((rawZ negb2 xb2 4 : Int) : Rat)))), (56, .agg #[.bool b14, .slice ad14 n14 c14, .slice ae14 m14 d14]), (55, .agg #[.bool b26, .slice ad26 n26 c26, .slice ae26 m26 d26]), (54, .bool false), (53, .bool false), (52, .int .i64 (sz (Rat.num (rmod (((rawZ nega1 xa1 4 : Int) : Rat) / ((rawZ negb1 xb1 4 : Int) : Rat)) (((rawZ nega2 xa2 4 : Int) : Rat) / ((rawZ negb2 xb2 4 : Int) : Rat)))))), (51, .agg #[.bool b26, .slice ad26 n26 c26, .slice ae26 m26 d26]), (50, .bool true), (49, .bool true), (48, .int .i64 (sz (Rat.num (((rawZ nega2 xa2 4 : Int) : Rat) / ((rawZ negb2 xb2 4 : Int) : Rat))))), (47, .agg #[.bool b14, .slice ad14 n14 c14, .slice ae14 m14 d14]), (46, .bool false), (11, .pointer (some ⟨g11, 0, none⟩)), (10, .pointer (some ⟨g10, 0, none⟩)), (26, .agg #[.bool b28, .slice ad28 n28 c28, .slice ae28 m28 d28]), (22, .agg #[.bool b26, .slice ad26 n26 c26, .slice ae26 m26 d26]), (9, .pointer (some ⟨g9, 0, none⟩)), (8, .pointer (some ⟨g8, 0, none⟩)), (7, .pointer (some ⟨g7, 0, none⟩)), (19, .agg #[.bool b16, .slice ad16 n16 c16, .slice ae16 m16 d16]), (17, .agg #[.bool b14, .slice ad14 n14 c14, .slice ae14 m14 d14]), (15, .agg #[.bool b12, .slice ad12 n12 c12, .slice ae12 m12 d12]), (13, .bool false), (12, .bool true), (5, .pointer (some ⟨g5, 0, none⟩)), (4, .pointer (some ⟨g4, 0, none⟩)), (3, .pointer (some ⟨g3, 0, none⟩)), (0, .agg #[.bool nega1, .slice aa1 na1 ca1, .bool negb1, .slice ab1 nb1 cb1]), (1, .agg #[.bool nega2, .slice aa2 na2 ca2, .bool negb2, .slice ab2 nb2 cb2]), (2, .agg #[.bool nega3, .slice aa3 na3 ca3, .bool negb3, .slice ab3 nb3 cb3])]) hF (r_assign (hF.at 0 rfl)) rfl rfl rfl rfl fun a hF => ?_
      refine E.nil ?_
      refine wp_ret ?_
      refine bodyPost_ret (res_tmp Tryz.results4 (hF.at 0 rfl)) hF.dfr ?_
      exact ⟨rfl, bel⟩
  · refine E.opv hF (r_bin (hF.at 0 rfl) ev_c eg_scalar (bi_int (ic_gtr (c := false) (dec_ff hc34)) (by simp))) rfl rfl rfl rfl fun a hF => ?_
    refine E.opv hF (r_move (hF.at 0 rfl)) rfl rfl rfl rfl fun a hF => ?_
    refine E.unwanted hF (wanted_by rfl rfl (hF.at 0 rfl) rfl) rfl rfl rfl fun a hF => ?_
    refine E.unwanted hF (wanted_by rfl rfl (hF.at 1 rfl) rfl) rfl rfl rfl fun a hF => ?_
    refine E.unwanted hF (wanted_by rfl rfl (hF.at 2 rfl) rfl) rfl rfl rfl fun a hF => ?_
    refine E.unwanted hF (wanted_by rfl rfl (hF.at 3 rfl) rfl) rfl rfl rfl fun a hF => ?_
    refine E.unwanted hF (wanted_undef rfl rfl (hF.at 0 rfl)) rfl rfl rfl fun a hF => ?_
    refine E.unwanted hF (wanted_undef rfl rfl (hF.at 1 rfl)) rfl rfl rfl fun a hF => ?_
    refine E.unwanted hF (wanted_undef rfl rfl (hF.at 2 rfl)) rfl rfl rfl fun a hF => ?_
    refine E.unwanted hF (wanted_undef rfl rfl (hF.at 3 rfl)) rfl rfl rfl fun a hF => ?_
    refine E.unwanted hF (wanted_by rfl rfl (hF.at 8 rfl) rfl) rfl rfl rfl fun a hF => ?_
    refine E.opv hF (r_pick_f (hF.at 9 rfl) ev_c) rfl rfl rfl rfl fun a hF => ?_
    refine E.nil ?_
    refine wp_cond_false (hF.at 0 rfl) ?_
    refine wp_skip ?_
    refine E.norm ?_
    refine wp_seq ?_
    refine E.seq ?_
    refine E.opv hF (r_load (hF.at 20 rfl) (ld_Rat (vs := [.bool b14, .slice ad14 n14 c14, .slice ae14 m14 d14]) o8 rfl rfl)) rfl rfl rfl rfl fun a hF => ?_
    refine E.opv hF (r_load (hF.at 20 rfl) (ld_Rat (vs := [.bool b16, .slice ad16 n16 c16, .slice ae16 m16 d16]) o9 rfl rfl)) rfl rfl rfl rfl fun a hF => ?_
    refine E.call hF (r_call Tryz.func22 en22.1 en22.2 (map2 (hF.at 1 rfl) (hF.at 0 rfl))) (rCmp_any _ _ (((rawZ nega2 xa2 4 : Int) : Rat) / ((rawZ negb2 xb2 4 : Int) : Rat)) (((rawZ nega3 xa3 4 : Int) : Rat) / ((rawZ negb3 xb3 4 : Int) : Rat)) 4 _ hh9 hh11 ((own5_lim nega2 negb2 oka2 okb2 4 (by decide)).up _ (by omega)) ((own5_lim nega3 negb3 oka3 okb3 4 (by decide)).up _ (by omega)) (by omega)) rfl rfl rfl rfl ?_
    rintro e w41 ⟨rfl, bb⟩
    refine ⟨_, rfl, ?_⟩
    intro a hF
    replace hf15 := hf15.below bb
    replace hd14 := hd14.below bb
    replace hh9 := hh9.below bb
    replace hn14 := hn14.below bb
    replace hf17 := hf17.below bb
    replace hd16 := hd16.below bb
    replace hh11 := hh11.below bb
    replace hn16 := hn16.below bb
    replace hf29 := hf29.below bb
    replace hd28 := hd28.below bb
    replace hh25 := hh25.below bb
    replace hn28 := hn28.below bb
    replace o8 := o8.below bb
    replace o9 := o9.below bb
    replace o11 := o11.below bb
    replace bel := below_to bel bb
    clear bb
    by_cases hc42 : 0 ≤ qc (((rawZ nega2 xa2 4 : Int) : Rat) / ((rawZ negb2 xb2 4 : Int) : Rat)) (((rawZ nega3 xa3 4 : Int) : Rat) / ((rawZ negb3 xb3 4 : Int) : Rat))
    · refine E.opv hF (r_bin (hF.at 0 rfl) ev_c eg_scalar (bi_int (ic_geq (c := true) (dec_tt hc42)) (by simp))) rfl rfl rfl rfl fun a hF => ?_
      refine E.opv hF (r_move (hF.at 0 rfl)) rfl rfl rfl rfl fun a hF => ?_
      refine E.unwanted hF (wanted_by rfl rfl (hF.at 0 rfl) rfl) rfl rfl rfl fun a hF => ?_
      refine E.unwanted hF (wanted_by rfl rfl (hF.at 1 rfl) rfl) rfl rfl rfl fun a hF => ?_
      refine E.unwanted hF (wanted_by rfl rfl (hF.at 2 rfl) rfl) rfl rfl rfl fun a hF => ?_
      refine E.unwanted hF (wanted_by rfl rfl (hF.at 3 rfl) rfl) rfl rfl rfl fun a hF => ?_
      refine E.unwanted hF (wanted_by rfl rfl (hF.at 4 rfl) rfl) rfl rfl rfl fun a hF => ?_
      refine E.unwanted hF (wanted_undef rfl rfl (hF.at 0 rfl)) rfl rfl rfl fun a hF => ?_
      refine E.unwanted hF (wanted_undef rfl rfl (hF.at 1 rfl)) rfl rfl rfl fun a hF => ?_
      refine E.unwanted hF (wanted_undef rfl rfl (hF.at 2 rfl)) rfl rfl rfl fun a hF => ?_
      refine E.unwanted hF (wanted_undef rfl rfl (hF.at 3 rfl)) rfl rfl rfl fun a hF => ?_
      refine E.unwanted hF (wanted_by rfl rfl (hF.at 9 rfl) rfl) rfl rfl rfl fun a hF => ?_
      refine E.opv hF (r_pick_t (hF.at 10 rfl) ev_c) rfl rfl rfl rfl fun a hF => ?_
      refine E.opset (L' := [(6, .bool true), (76, .bool true), (75, undef), (74, undef), (73, undef), (72, undef), (71, undef), (70, undef), (69, undef), (68, undef), (67, undef), (66, undef), (65, .bool true), (64, .bool true), (63, .int .i64 (qc (((rawZ nega2 xa2 4 : Int) : Rat) / ((rawZ negb2 xb2 4 : Int) : Rat)) (((rawZ nega3 xa3 4 : Int) : Rat) / ((rawZ negb3 xb3 4 : Int) : Rat)))), (62, .agg #[.bool b16, .slice ad16 n16 c16, .slice ae16 m16 d16]), (61, .agg #[.bool b14, .slice ad14 n14 c14, .slice ae14 m14 d14]), (60, .bool false), (59, undef), (58, undef), (57, undef), (56, undef), (55, undef), (54, undef), (53, undef), (52, undef), (51, undef), (50, .bool false), (49, .bool false), (48, .int .i64 (sz (Rat.num (((rawZ nega2 xa2 4 : Int) : Rat) / ((rawZ negb2 xb2 4 : Int) : Rat))))), (47, .agg #[.bool b14, .slice ad14 n14 c14, .slice ae14 m14 d14]), (46, .bool false), (11, .pointer (some ⟨g11, 0, none⟩)), (10, .pointer (some ⟨g10, 0, none⟩)), (26, .agg #[.bool b28, .slice ad28 n28 c28, .slice ae28 m28 d28]), (22, .agg #[.bool b26, .slice ad26 n26 c26, .slice ae26 m26 d26]), (9, .pointer (some ⟨g9, 0, none⟩)), (8, .pointer (some ⟨g8, 0, none⟩)), (7, .pointer (some ⟨g7, 0, none⟩)), (19, .agg #[.bool b16, .slice ad16 n16 c16, .slice ae16 m16 d16]), (17, .agg #[.bool b14, .slice ad14 n14 c14, .slice ae14 m14 d14]), (15, .agg #[.bool b12, .slice ad12 n12 c12, .slice ae12 m12 d12]), (13, .bool false), (12, .bool true), (5, .pointer (some ⟨g5, 0, none⟩)), (4, .pointer (some ⟨g4, 0, none⟩)), (3, .pointer (some ⟨g3, 0, none⟩)), (0, .agg #[.bool nega1, .slice aa1 na1 ca1, .bool negb1, .slice ab1 nb1 cb1]), (1, .agg #[.bool nega2, .slice aa2 na2 ca2, .bool negb2, .slice ab2 nb2 cb2]), (2, .agg #[.bool nega3, .slice aa3 na3 ca3, .bool negb3, .slice ab3 nb3 cb3])]) hF (r_assign (hF.at 0 rfl)) rfl rfl rfl rfl fun a hF => ?_
      refine E.nil ?_
      refine wp_ret ?_
      refine bodyPost_ret (res_tmp Tryz.results4 (hF.at 0 rfl)) hF.dfr ?_
      exact ⟨rfl, bel⟩
    · refine E.opv hF (r_bin (hF.at 0 rfl) ev_c eg_scalar (bi_int (ic_geq (c := false) (dec_ff hc42)) (by simp))) rfl rfl rfl rfl fun a hF => ?_
      refine E.opv hF (r_move (hF.at 0 rfl)) rfl rfl rfl rfl fun a hF => ?_
      refine E.opvg hF (r_load (hF.at 20 rfl) (ld_Rat (vs := [.bool b28, .slice ad28 n28 c28, .slice ae28 m28 d28]) o11 rfl rfl)) (wanted_by rfl rfl (hF.at 0 rfl) rfl) rfl rfl rfl fun a hF => ?_
      refine E.opvg hF (r_load (hF.at 26 rfl) (ld_Rat (vs := [.bool b14, .slice ad14 n14 c14, .slice ae14 m14 d14]) o8 rfl rfl)) (wanted_by rfl rfl (hF.at 1 rfl) rfl) rfl rfl rfl fun a hF => ?_
      refine E.callg hF (r_call Tryz.func22 en22.1 en22.2 (map2 (hF.at 1 rfl) (hF.at 0 rfl))) (rCmp_any _ _ (rinto (((rawZ nega1 xa1 4 : Int) : Rat) / ((rawZ negb1 xb1 4 : Int) : Rat)) (((rawZ nega2 xa2 4 : Int) : Rat) / ((rawZ negb2 xb2 4 : Int) : Rat)) (((rawZ nega3 xa3 4 : Int) : Rat) / ((rawZ negb3 xb3 4 : Int) : Rat))) (((rawZ nega2 xa2 4 : Int) : Rat) / ((rawZ negb2 xb2 4 : Int) : Rat)) (max (2 * 4 + 5 * 4 + 2 * 4 + 8) 4) _ hh25 hh9 ((rinto_lim (k := 4) (j := 4) (i := 4) (own5_lim nega1 negb1 oka1 okb1 4 (by decide)) (own5_lim nega2 negb2 oka2 okb2 4 (by decide)) (own5_lim nega3 negb3 oka3 okb3 4 (by decide))).up _ (by omega)) ((own5_lim nega2 negb2 oka2 okb2 4 (by decide)).up _ (by omega)) (by omega)) (wanted_by rfl rfl (hF.at 2 rfl) rfl) rfl rfl rfl ?_
      rintro e w43 ⟨rfl, bb⟩
      refine ⟨_, rfl, ?_⟩
      intro a hF
      replace hf17 := hf17.below bb
      replace hd16 := hd16.below bb
      replace hh11 := hh11.below bb
      replace hn16 := hn16.below bb
      replace hf29 := hf29.below bb
      replace hd28 := hd28.below bb
      replace hh25 := hh25.below bb
      replace hn28 := hn28.below bb
      replace o9 := o9.below bb
      replace o11 := o11.below bb
      replace bel := below_to bel bb
      clear bb
      refine E.opvg hF (r_bin (hF.at 0 rfl) ev_c eg_scalar (bi_int (ic_geq (c := true) (dec_tt (qc_0le.2 (rinto_low (qc_lt.1 (Int.not_le.1 (by assumption))))))) (by simp))) (wanted_by rfl rfl (hF.at 3 rfl) rfl) rfl rfl rfl fun a hF => ?_
      refine E.opvg hF (r_move (hF.at 0 rfl)) (wanted_by rfl rfl (hF.at 4 rfl) rfl) rfl rfl rfl fun a hF => ?_
      refine E.opvg hF (r_load (hF.at 25 rfl) (ld_Rat (vs := [.bool b28, .slice ad28 n28 c28, .slice ae28 m28 d28]) o11 rfl rfl)) (wanted_by rfl rfl (hF.at 0 rfl) rfl) rfl rfl rfl fun a hF => ?_
      refine E.opvg hF (r_load (hF.at 30 rfl) (ld_Rat (vs := [.bool b16, .slice ad16 n16 c16, .slice ae16 m16 d16]) o9 rfl rfl)) (wanted_by rfl rfl (hF.at 1 rfl) rfl) rfl rfl rfl fun a hF => ?_
      refine E.callg hF (r_call Tryz.func22 en22.1 en22.2 (map2 (hF.at 1 rfl) (hF.at 0 rfl))) (rCmp_any _ _ (rinto (((rawZ nega1 xa1 4 : Int) : Rat) / ((rawZ negb1 xb1 4 : Int) : Rat)) (((rawZ nega2 xa2 4 : Int) : Rat) / ((rawZ negb2 xb2 4 : Int) : Rat)) (((rawZ nega3 xa3 4 : Int) : Rat) / ((rawZ negb3 xb3 4 : Int) : Rat))) (((rawZ nega3 xa3 4 : Int) : Rat) / ((rawZ negb3 xb3 4 : Int) : Rat)) (max (2 * 4 + 5 * 4 + 2 * 4 + 8) 4) _ hh25 hh11 ((rinto_lim (k := 4) (j := 4) (i := 4) (own5_lim nega1 negb1 oka1 okb1 4 (by decide)) (own5_lim nega2 negb2 oka2 okb2 4 (by decide)) (own5_lim nega3 negb3 oka3 okb3 4 (by decide))).up _ (by omega)) ((own5_lim nega3 negb3 oka3 okb3 4 (by decide)).up _ (by omega)) (by omega)) (wanted_by rfl rfl (hF.at 2 rfl) rfl) rfl rfl rfl ?_
      rintro e w44 ⟨rfl, bb⟩
      refine ⟨_, rfl, ?_⟩
      intro a hF
      replace bel := below_to bel bb
      clear bb
      refine E.opvg hF (r_bin (hF.at 0 rfl) ev_c eg_scalar (bi_int (ic_lss (c := true) (dec_tt (qc_lt.2 (rinto_high (qc_lt.1 (Int.not_le.1 (by assumption))))))) (by simp))) (wanted_by rfl rfl (hF.at 3 rfl) rfl) rfl rfl rfl fun a hF => ?_
      refine E.opvg hF (r_pick_t (hF.at 4 rfl) (hF.at 0 rfl)) (wanted_by rfl rfl (hF.at 9 rfl) rfl) rfl rfl rfl fun a hF => ?_
      refine E.opv hF (r_pick_f (hF.at 10 rfl) (hF.at 0 rfl)) rfl rfl rfl rfl fun a hF => ?_
      refine E.opset (L' := [(6, .bool true), (76, .bool true), (75, .bool true), (74, .bool true), (73, .int .i64 (qc (rinto (((rawZ nega1 xa1 4 : Int) : Rat) / ((rawZ negb1 xb1 4 : Int) : Rat)) (((rawZ nega2 xa2 4 : Int) : Rat) / ((rawZ negb2 xb2 4 : Int) : Rat)) (((rawZ nega3 xa3 4 : Int) : Rat) / ((rawZ negb3 xb3 4 : Int) : Rat))) (((rawZ nega3 xa3 4 : Int) : Rat) / ((rawZ negb3 xb3 4 : Int) : Rat)))), (72, .agg #[.bool b16, .slice ad16 n16 c16, .slice ae16 m16 d16]), (71, .agg #[.bool b28, .slice ad28 n28 c28, .slice ae28 m28 d28]), (70, .bool true), (69, .bool true), (68, .int .i64 (qc (rinto (((rawZ nega1 xa1 4 : Int) : Rat) / ((rawZ negb1 xb1 4 : Int) : Rat)) (((rawZ nega2 xa2 4 : Int) : Rat) / ((rawZ negb2 xb2 4 : Int) : Rat)) (((rawZ nega3 xa3 4 : Int) : Rat) / ((rawZ negb3 xb3 4 : Int) : Rat))) (((rawZ nega2 xa2 4 : Int) : Rat) / ((rawZ negb2 xb2 4 : Int) : Rat)))), (67, .agg #[.bool b14, .slice ad14 n14 c14, .slice ae14 m14 d14]), (66, .agg #[.bool b28, .slice ad28 n28 c28, .slice ae28 m28 d28]), (65, .bool false), (64, .bool false), (63, .int .i64 (qc (((rawZ nega2 xa2 4 : Int) : Rat) / ((rawZ negb2 xb2 4 : Int) : Rat)) (((rawZ nega3 xa3 4 : Int) : Rat) / ((rawZ negb3 xb3 4 : Int) : Rat)))), (62, .agg #[.bool b16, .slice ad16 n16 c16, .slice ae16 m16 d16]), (61, .agg #[.bool b14, .slice ad14 n14 c14, .slice ae14 m14 d14]), (60, .bool false), (59, undef), (58, undef), (57, undef), (56, undef), (55, undef), (54, undef), (53, undef), (52, undef), (51, undef), (50, .bool false), (49, .bool false), (48, .int .i64 (sz (Rat.num (((rawZ nega2 xa2 4 : Int) : Rat) / ((rawZ negb2 xb2 4 : Int) : Rat))))), (47, .agg #[.bool b14, .slice ad14 n14 c14, .slice ae14 m14 d14]), (46, .bool false), (11, .pointer (some ⟨g11, 0, none⟩)), (10, .pointer (some ⟨g10, 0, none⟩)), (26, .agg #[.bool b28, .slice ad28 n28 c28, .slice ae28 m28 d28]), (22, .agg #[.bool b26, .slice ad26 n26 c26, .slice ae26 m26 d26]), (9, .pointer (some ⟨g9, 0, none⟩)), (8, .pointer (some ⟨g8, 0, none⟩)), (7, .pointer (some ⟨g7, 0, none⟩)), (19, .agg #[.bool b16, .slice ad16 n16 c16, .slice ae16 m16 d16]), (17, .agg #[.bool b14, .slice ad14 n14 c14, .slice ae14 m14 d14]), (15, .agg #[.bool b12, .slice ad12 n12 c12, .slice ae12 m12 d12]), (13, .bool false), (12, .bool true), (5, .pointer (some ⟨g5, 0, none⟩)), (4, .pointer (some ⟨g4, 0, none⟩)), (3, .pointer (some ⟨g3, 0, none⟩)), (0, .agg #[.bool nega1, .slice aa1 na1 ca1, .bool negb1, .slice ab1 nb1 cb1]), (1, .agg #[.bool nega2, .slice aa2 na2 ca2, .bool negb2, .slice ab2 nb2 cb2]), (2, .agg #[.bool nega3, .slice aa3 na3 ca3, .bool negb3, .slice ab3 nb3 cb3])]) hF (r_assign (hF.at 0 rfl)) rfl rfl rfl rfl fun a hF => ?_
      refine E.nil ?_
      refine wp_ret ?_
      refine bodyPost_ret (res_tmp Tryz.results4 (hF.at 0 rfl)) hF.dfr ?_
      exact ⟨rfl, bel⟩

end Go.Proofs.YthoiocjbjfhgpaaGreat
