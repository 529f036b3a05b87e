/- CutFloors. -/
import Derived.Test.YthoiocjbjfhgpaaGreatCuD
import Derived.Test.YthoiocjbjfhgpaaGreatCuF
namespace Go.Proofs.YthoiocjbjfhgpaaGreat
open Go.RowKit
set_option maxRecDepth 100000
set_option linter.unusedVariables false

set_option maxHeartbeats 8000000 in
theorem cutFloors_walk (nega1 : Bool) (aa1 : Option Addr) (na1 ca1 : Nat) (xa1 : List Nat) (negb1 : Bool) (ab1 : Option Addr) (nb1 cb1 : Nat) (xb1 : List Nat) (w : World) (hM : MLen w) (ia1 : InX w aa1 na1 ca1 xa1) (ib1 : InX w ab1 nb1 cb1 xb1) :
    Calls Tryz.prog 3 #[.agg #[.bool nega1, .slice aa1 na1 ca1, .bool negb1, .slice ab1 nb1 cb1]] w (ValPost w (.bool true)) := by
  have oka1 := ia1.ok
  have okb1 := ib1.ok
  have bel : Below w.heap.size w w := Below.refl _ _
  refine E.enter (nt := 93) (L := [(0, .agg #[.bool nega1, .slice aa1 na1 ca1, .bool negb1, .slice ab1 nb1 cb1])]) Tryz.func3 rfl rfl rfl (args_cons (i := 0) rfl args_nil) ?_
  intro a hF
  refine wp_seq ?_
  refine E.seq ?_
  obtain ⟨g1, w1, ge1, hr, bb, o1⟩ := own_box (P := Tryz.prog) (w := w) (cs := [.bool nega1, .slice aa1 na1 ca1, .bool negb1, .slice ab1 nb1 cb1]) (v := .agg #[.bool nega1, .slice aa1 na1 ca1, .bool negb1, .slice ab1 nb1 cb1]) 26 rfl (niB (niS (niB (niS ni0))))
  replace ge1 : w.heap.size ≤ g1 := by rw [← ge1]; exact bel.size
  refine E.opv hF (r_box (hF.at 0 rfl) hr) rfl rfl rfl rfl fun a hF => ?_
  clear hr
  replace ia1 := ia1.below bb
  replace ib1 := ib1.below bb
  replace bel := below_to bel bb
  clear bb
  refine E.opv hF (r_assign ev_c) rfl rfl rfl rfl fun a hF => ?_
  refine E.nil ?_
  refine wp_seq ?_
  refine wp_seq ?_
  refine E.seq ?_
  refine E.call hF (r_call Tryz.func9 en9.1 en9.2 map0) (awake6_any _ (hM.below bel)) rfl rfl rfl rfl ?_
  rintro e w2 ⟨rfl, bb⟩
  refine ⟨_, rfl, ?_⟩
  intro a hF
  replace ia1 := ia1.below bb
  replace ib1 := ib1.below bb
  replace o1 := o1.below bb
  replace bel := below_to bel bb
  clear bb
  refine E.opv hF (r_un (hF.at 0 rfl) (bn_not _ false rfl)) rfl rfl rfl rfl fun a hF => ?_
  refine E.nil ?_
  refine wp_cond_false (hF.at 0 rfl) ?_
  refine wp_skip ?_
  refine E.norm ?_
  refine wp_seq ?_
  refine E.drawn 6 mixed hF [12, 13, 14, 15, 3, 4] [(fun _ v => v = .agg #[.bool nega1, .slice aa1 na1 ca1, .bool negb1, .slice ab1 nb1 cb1]), (fun w v => Rq w v (((rawZ nega1 xa1 6 : Int) : Rat) / ((rawZ negb1 xb1 6 : Int) : Rat))), (fun _ v => v = .agg #[.bool nega1, .slice aa1 na1 ca1, .bool negb1, .slice ab1 nb1 cb1]), (fun w v => Rr w v (((rawZ nega1 xa1 6 : Int) : Rat) / ((rawZ negb1 xb1 6 : Int) : Rat)) (6)), (fun w v => ∃ g, v = .pointer (some ⟨g, 0, none⟩) ∧ w2.heap.size ≤ g ∧ Own w g [.bool false, .slice none 0 0, .slice none 0 0]), (fun w v => ∃ g, v = .pointer (some ⟨g, 0, none⟩) ∧ w2.heap.size ≤ g ∧ Own w g [.bool false, .slice none 0 0, .slice none 0 0])] [4, 5] (by decide +kernel) (by decide +kernel) rfl rfl rfl ⟨(Mb.eq _), (fun _ _ _ h hb => h.below hb), (Mb.eq _), (fun _ _ _ h hb => h.below hb), (fun _ _ _ ⟨g, e, l, o⟩ hb => ⟨g, e, l, o.below hb⟩), (fun _ _ _ ⟨g, e, l, o⟩ hb => ⟨g, e, l, o.below hb⟩), trivial⟩ ⟨fun _ _ ⟨g, e, _, o⟩ => ⟨g, e, o.lt⟩, ⟨fun _ _ ⟨g, e, _, o⟩ => ⟨g, e, o.lt⟩, trivial⟩⟩ ⟨?_, ?_, ?_, ?_, ?_, ?_, trivial⟩ ?_
  · intro a' w' hF' hb hd
    exact if_does (wanted_free rfl) (Does.vals (r_load (hF'.at 3 rfl) (ld_Raw5 (vs := [.bool nega1, .slice aa1 na1 ca1, .bool negb1, .slice ab1 nb1 cb1]) (o1.below hb) rfl rfl)) ⟨rfl, Below.refl _ _, (fun h => absurd h (by decide))⟩)
  · intro a' w' hF' hb hd
    have e12 : a'.tmps.getD 12 undef = .agg #[.bool nega1, .slice aa1 na1 ca1, .bool negb1, .slice ab1 nb1 cb1] := hd _ 12 (Array.mem_of_getElem? (i := 0) rfl) rfl rfl
    refine if_does (wanted_free rfl) (Does.calls (r_call Tryz.func10 en10.1 en10.2 (map2 e12 ev_c)) (Own5_any nega1 aa1 na1 ca1 xa1 negb1 ab1 nb1 cb1 xb1 6 _ (ia1.below hb) (ib1.below hb) (by omega)) ?_)
    rintro e w'' ⟨v', rfl, h', bb⟩
    exact ⟨_, rfl, h', bb, (fun h => absurd h (by decide))⟩
  · intro a' w' hF' hb hd
    exact if_does (wanted_free rfl) (Does.vals (r_load (hF'.at 3 rfl) (ld_Raw5 (vs := [.bool nega1, .slice aa1 na1 ca1, .bool negb1, .slice ab1 nb1 cb1]) (o1.below hb) rfl rfl)) ⟨rfl, Below.refl _ _, (fun h => absurd h (by decide))⟩)
  · intro a' w' hF' hb hd
    have e14 : a'.tmps.getD 14 undef = .agg #[.bool nega1, .slice aa1 na1 ca1, .bool negb1, .slice ab1 nb1 cb1] := hd _ 14 (Array.mem_of_getElem? (i := 0) rfl) rfl rfl
    refine if_does (wanted_free rfl) (Does.calls (r_call Tryz.func11 en11.1 en11.2 (map2 e14 ev_c)) (Told5_any nega1 aa1 na1 ca1 xa1 negb1 ab1 nb1 cb1 xb1 6 _ (ia1.below hb) (ib1.below hb) (by omega) (by omega)) ?_)
    rintro e w'' ⟨v', rfl, h', bb⟩
    exact ⟨_, rfl, h', bb, (fun h => absurd h (by decide))⟩
  · intro a' w' hF' hb hd
    obtain ⟨g, w2, ge, hr, bb, on⟩ := own_alloc (P := Tryz.prog) (w := w') (cs := [.bool false, .slice none 0 0, .slice none 0 0]) 32 ze_Rat rfl (niB (niS (niS ni0)))
    subst ge
    exact if_does (wanted_free rfl) (Does.vals (r_alloc hr) ⟨⟨_, rfl, hb.size, on⟩, bb, fun _ => rfl⟩)
  · intro a' w' hF' hb hd
    obtain ⟨g, w2, ge, hr, bb, on⟩ := own_alloc (P := Tryz.prog) (w := w') (cs := [.bool false, .slice none 0 0, .slice none 0 0]) 39 ze_RRat rfl (niB (niS (niS ni0)))
    subst ge
    exact if_does (wanted_free rfl) (Does.vals (r_alloc hr) ⟨⟨_, rfl, hb.size, on⟩, bb, fun _ => rfl⟩)
  intro a w3 hF bb hall hne
  obtain ⟨vv4, e13, hh5⟩ : ∃ v, a.tmps.getD 13 undef = v ∧ Rq w3 v (((rawZ nega1 xa1 6 : Int) : Rat) / ((rawZ negb1 xb1 6 : Int) : Rat)) := ⟨_, rfl, hall 1 13 rfl⟩
  obtain ⟨vv6, e15, hh7⟩ : ∃ v, a.tmps.getD 15 undef = v ∧ Rr w3 v (((rawZ nega1 xa1 6 : Int) : Rat) / ((rawZ negb1 xb1 6 : Int) : Rat)) (6) := ⟨_, rfl, hall 3 15 rfl⟩
  obtain ⟨g3, e3, ge3, o3⟩ : ∃ g, a.tmps.getD 3 undef = .pointer (some ⟨g, 0, none⟩) ∧ w2.heap.size ≤ g ∧ Own w3 g [.bool false, .slice none 0 0, .slice none 0 0] := hall 4 3 rfl
  obtain ⟨g4, e4, ge4, o4⟩ : ∃ g, a.tmps.getD 4 undef = .pointer (some ⟨g, 0, none⟩) ∧ w2.heap.size ≤ g ∧ Own w3 g [.bool false, .slice none 0 0, .slice none 0 0] := hall 5 4 rfl
  have ne3_4 : g3 ≠ g4 := by intro e; exact hne 4 5 3 4 rfl rfl (by decide) rfl rfl (by rw [e3, e4, e])
  replace ge3 : w.heap.size ≤ g3 := Nat.le_trans bel.size ge3
  replace ge4 : w.heap.size ≤ g4 := Nat.le_trans bel.size ge4
  clear hall hne
  replace bel := below_to bel bb
  clear bb
  obtain ⟨b8, ad8, n8, c8, ae8, m8, d8, rfl, hn8, hd8⟩ := Rq.shape hh5
  have hf9 := Wc.abs hn8
  replace hF := hF.add e13
  clear e13
  obtain ⟨b10, ad10, n10, c10, ae10, m10, d10, z10, D10, rfl, hn10, hd10, hD10, hq10, lz10, lD10⟩ := Rr.shape hh7
  have ha10 := hn10.abs
  replace hF := hF.add e15
  clear e15
  replace hF := hF.add e3
  clear e3
  replace hF := hF.add e4
  clear e4
  obtain ⟨w11, hr, tu, on⟩ := st_Rat (vs := [.bool b8, .slice ad8 n8 c8, .slice ae8 m8 d8]) o3 rfl rfl (ocB (ocS (ocS oc0))) (niB (niS (niS ni0))) (o := 0) rfl
  have kp := tu.keep o3
  refine E.st hF (r_store (hF.at 1 rfl) (hF.at 3 rfl) (hr _ rfl)) rfl rfl fun a hF => ?_
  clear hr
  replace hh7 := hh7.keep kp
  replace hn10 := hn10.keep kp
  replace ha10 := ha10.keep kp
  replace hd10 := hd10.keep kp
  replace hh5 := hh5.keep kp
  replace hn8 := hn8.keep kp
  replace hf9 := hf9.keep kp
  replace hd8 := hd8.keep kp
  replace o4 := tu.own o4 (Ne.symm ne3_4)
  replace bel := tu.below bel ge3
  clear tu kp
  replace o3 := on
  clear on
  obtain ⟨w12, hr, tu, on⟩ := st_RRat (vs := [.bool b10, .slice ad10 n10 c10, .slice ae10 m10 d10]) o4 rfl rfl (ocB (ocS (ocS oc0))) (niB (niS (niS ni0))) (o := 0) rfl
  have kp := tu.keep o4
  refine E.st hF (r_store (hF.at 0 rfl) (hF.at 2 rfl) (hr _ rfl)) rfl rfl fun a hF => ?_
  clear hr
  replace hf9 := hf9.keep kp
  replace hd8 := hd8.keep kp
  replace hh5 := hh5.keep kp
  replace hn8 := hn8.keep kp
  replace hh7 := hh7.keep kp
  replace hn10 := hn10.keep kp
  replace ha10 := ha10.keep kp
  replace hd10 := hd10.keep kp
  replace o3 := tu.own o3 ne3_4
  replace bel := tu.below bel ge4
  clear tu kp
  replace o4 := on
  clear on
  refine E.nil ?_
  refine wp_seq ?_
  refine E.seq ?_
  refine E.opv hF (r_load (hF.at 1 rfl) (ld_Rat (vs := [.bool b8, .slice ad8 n8 c8, .slice ae8 m8 d8]) o3 rfl rfl)) rfl rfl rfl rfl fun a hF => ?_
  refine E.call hF (r_call Tryz.func13 en13.1 en13.2 (map1 (hF.at 0 rfl))) (cFloor_any _ (((rawZ nega1 xa1 6 : Int) : Rat) / ((rawZ negb1 xb1 6 : Int) : Rat)) 6 _ hh5 (own5_lim nega1 negb1 oka1 okb1 6 (by decide)) (by omega)) rfl rfl rfl rfl ?_
  rintro e w13 ⟨vv14, rfl, hh15, bb⟩
  refine ⟨_, rfl, ?_⟩
  intro a hF
  replace hf9 := hf9.below bb
  replace hd8 := hd8.below bb
  replace hh5 := hh5.below bb
  replace hn8 := hn8.below bb
  replace ha10 := ha10.below bb
  replace hd10 := hd10.below bb
  replace hh7 := hh7.below bb
  replace hn10 := hn10.below bb
  replace o3 := o3.below bb
  replace o4 := o4.below bb
  replace bel := below_to bel bb
  clear bb
  obtain ⟨ad16, n16, c16, rfl, _⟩ := Wc.shape hh15
  refine E.call hF (r_call Tryz.func12 en12.1 en12.2 (map1 (hF.at 0 rfl))) (cOf_any _ (Rat.floor (((rawZ nega1 xa1 6 : Int) : Rat) / ((rawZ negb1 xb1 6 : Int) : Rat))) _ (Wc.wz hh15)) rfl rfl rfl rfl ?_
  rintro e w17 ⟨vv18, rfl, hh19, bb⟩
  refine ⟨_, rfl, ?_⟩
  intro a hF
  replace hf9 := hf9.below bb
  replace hd8 := hd8.below bb
  replace hh5 := hh5.below bb
  replace hn8 := hn8.below bb
  replace ha10 := ha10.below bb
  replace hd10 := hd10.below bb
  replace hh7 := hh7.below bb
  replace hn10 := hn10.below bb
  replace o3 := o3.below bb
  replace o4 := o4.below bb
  replace bel := below_to bel bb
  clear bb
  obtain ⟨b20, ad20, n20, c20, ae20, m20, d20, rfl, hn20, hd20⟩ := Rq.shape hh19
  have hf21 := Wc.abs hn20
  obtain ⟨g5, w22, ge5, hr, bb, o5⟩ := own_alloc (P := Tryz.prog) (w := w17) (cs := [.bool false, .slice none 0 0, .slice none 0 0]) 32 ze_Rat rfl (niB (niS (niS ni0)))
  have ne3_5 : g3 ≠ g5 := by rw [← ge5]; exact o3.ne_new
  have ne4_5 : g4 ≠ g5 := by rw [← ge5]; exact o4.ne_new
  replace ge5 : w.heap.size ≤ g5 := by rw [← ge5]; exact bel.size
  refine E.opv hF (r_alloc hr) rfl rfl rfl rfl fun a hF => ?_
  clear hr
  replace hh19 := hh19.below bb
  replace hn20 := hn20.below bb
  replace hf21 := hf21.below bb
  replace hd20 := hd20.below bb
  replace hf9 := hf9.below bb
  replace hd8 := hd8.below bb
  replace hh5 := hh5.below bb
  replace hn8 := hn8.below bb
  replace ha10 := ha10.below bb
  replace hd10 := hd10.below bb
  replace hh7 := hh7.below bb
  replace hn10 := hn10.below bb
  replace o3 := o3.below bb
  replace o4 := o4.below bb
  replace bel := below_to bel bb
  clear bb
  obtain ⟨w23, hr, tu, on⟩ := st_Rat (vs := [.bool b20, .slice ad20 n20 c20, .slice ae20 m20 d20]) o5 rfl rfl (ocB (ocS (ocS oc0))) (niB (niS (niS ni0))) (o := 0) rfl
  have kp := tu.keep o5
  refine E.st hF (r_store (hF.at 0 rfl) (hF.at 1 rfl) (hr _ rfl)) rfl rfl fun a hF => ?_
  clear hr
  replace hf9 := hf9.keep kp
  replace hd8 := hd8.keep kp
  replace hh5 := hh5.keep kp
  replace hn8 := hn8.keep kp
  replace ha10 := ha10.keep kp
  replace hd10 := hd10.keep kp
  replace hh7 := hh7.keep kp
  replace hn10 := hn10.keep kp
  replace hh19 := hh19.keep kp
  replace hn20 := hn20.keep kp
  replace hf21 := hf21.keep kp
  replace hd20 := hd20.keep kp
  replace o3 := tu.own o3 ne3_5
  replace o4 := tu.own o4 ne4_5
  replace bel := tu.below bel ge5
  clear tu kp
  replace o5 := on
  clear on
  refine E.nil ?_
  refine wp_seq ?_
  refine E.seq ?_
  refine E.opv hF (r_load (hF.at 5 rfl) (ld_Rat (vs := [.bool b8, .slice ad8 n8 c8, .slice ae8 m8 d8]) o3 rfl rfl)) rfl rfl rfl rfl fun a hF => ?_
  refine E.call hF (r_call Tryz.func14 en14.1 en14.2 (map1 (hF.at 0 rfl))) (cDays_any _ (((rawZ nega1 xa1 6 : Int) : Rat) / ((rawZ negb1 xb1 6 : Int) : Rat)) 6 _ hh5 (own5_lim nega1 negb1 oka1 okb1 6 (by decide)) (by omega)) rfl rfl rfl rfl ?_
  rintro e w24 ⟨rfl, bb⟩
  refine ⟨_, rfl, ?_⟩
  intro a hF
  replace hf9 := hf9.below bb
  replace hd8 := hd8.below bb
  replace hh5 := hh5.below bb
  replace hn8 := hn8.below bb
  replace ha10 := ha10.below bb
  replace hd10 := hd10.below bb
  replace hh7 := hh7.below bb
  replace hn10 := hn10.below bb
  replace hf21 := hf21.below bb
  replace hd20 := hd20.below bb
  replace hh19 := hh19.below bb
  replace hn20 := hn20.below bb
  replace o3 := o3.below bb
  replace o4 := o4.below bb
  replace o5 := o5.below bb
  replace bel := below_to bel bb
  clear bb
  refine E.opv hF (r_move (hF.at 0 rfl)) rfl rfl rfl rfl fun a hF => ?_
  refine E.opv hF (r_extract (v := .int .i64 (sm64 (Rat.floor (((rawZ nega1 xa1 6 : Int) : Rat) / ((rawZ negb1 xb1 6 : Int) : Rat))))) (hF.at 0 rfl) rfl) rfl rfl rfl rfl fun a hF => ?_
  refine E.opv hF (r_extract (v := .bool (fit64 (Rat.floor (((rawZ nega1 xa1 6 : Int) : Rat) / ((rawZ negb1 xb1 6 : Int) : Rat))))) (hF.at 1 rfl) rfl) rfl rfl rfl rfl fun a hF => ?_
  refine E.opv hF (r_assign (hF.at 1 rfl)) rfl rfl rfl rfl fun a hF => ?_
  refine E.opv hF (r_assign (hF.at 1 rfl)) rfl rfl rfl rfl fun a hF => ?_
  refine E.nil ?_
  refine wp_seq ?_
  refine E.seq ?_
  refine E.opv hF (r_load (hF.at 12 rfl) (ld_Rat (vs := [.bool b8, .slice ad8 n8 c8, .slice ae8 m8 d8]) o3 rfl rfl)) rfl rfl rfl rfl fun a hF => ?_
  refine E.call hF (r_call Tryz.func13 en13.1 en13.2 (map1 (hF.at 0 rfl))) (cFloor_any _ (((rawZ nega1 xa1 6 : Int) : Rat) / ((rawZ negb1 xb1 6 : Int) : Rat)) 6 _ hh5 (own5_lim nega1 negb1 oka1 okb1 6 (by decide)) (by omega)) rfl rfl rfl rfl ?_
  rintro e w25 ⟨vv26, rfl, hh27, bb⟩
  refine ⟨_, rfl, ?_⟩
  intro a hF
  replace hf9 := hf9.below bb
  replace hd8 := hd8.below bb
  replace hh5 := hh5.below bb
  replace hn8 := hn8.below bb
  replace ha10 := ha10.below bb
  replace hd10 := hd10.below bb
  replace hh7 := hh7.below bb
  replace hn10 := hn10.below bb
  replace hf21 := hf21.below bb
  replace hd20 := hd20.below bb
  replace hh19 := hh19.below bb
  replace hn20 := hn20.below bb
  replace o3 := o3.below bb
  replace o4 := o4.below bb
  replace o5 := o5.below bb
  replace bel := below_to bel bb
  clear bb
  obtain ⟨ad28, n28, c28, rfl, _⟩ := Wc.shape hh27
  refine E.call hF (r_call Tryz.func15 en15.1 en15.2 (map1 (hF.at 0 rfl))) (small64 _ (Rat.floor (((rawZ nega1 xa1 6 : Int) : Rat) / ((rawZ negb1 xb1 6 : Int) : Rat))) _ (Wc.wz hh27)) rfl rfl rfl rfl ?_
  rintro e w29 ⟨rfl, bb⟩
  refine ⟨_, rfl, ?_⟩
  intro a hF
  replace hf9 := hf9.below bb
  replace hd8 := hd8.below bb
  replace hh5 := hh5.below bb
  replace hn8 := hn8.below bb
  replace ha10 := ha10.below bb
  replace hd10 := hd10.below bb
  replace hh7 := hh7.below bb
  replace hn10 := hn10.below bb
  replace hf21 := hf21.below bb
  replace hd20 := hd20.below bb
  replace hh19 := hh19.below bb
  replace hn20 := hn20.below bb
  replace o3 := o3.below bb
  replace o4 := o4.below bb
  replace o5 := o5.below bb
  replace bel := below_to bel bb
  clear bb
  refine E.opv hF (r_move (hF.at 0 rfl)) rfl rfl rfl rfl fun a hF => ?_
  refine E.opv hF (r_extract (v := .int .i64 (sm64 (Rat.floor (((rawZ nega1 xa1 6 : Int) : Rat) / ((rawZ negb1 xb1 6 : Int) : Rat))))) (hF.at 0 rfl) rfl) rfl rfl rfl rfl fun a hF => ?_
  refine E.opv hF (r_extract (v := .bool (fit64 (Rat.floor (((rawZ nega1 xa1 6 : Int) : Rat) / ((rawZ negb1 xb1 6 : Int) : Rat))))) (hF.at 1 rfl) rfl) rfl rfl rfl rfl fun a hF => ?_
  refine E.opv hF (r_assign (hF.at 1 rfl)) rfl rfl rfl rfl fun a hF => ?_
  refine E.opv hF (r_assign (hF.at 1 rfl)) rfl rfl rfl rfl fun a hF => ?_
  refine E.nil ?_
  refine wp_seq ?_
  refine wp_seq ?_
  refine E.drawn 32 mixed hF [30, 31, 32, 33, 34, 35, 36, 37, 38, 39, 40, 41, 42, 43, 44, 45, 46, 47, 48, 49, 50, 51, 52, 53, 54, 55, 56, 57, 58, 59, 60, 61] [(fun _ v => v = .agg #[.bool b8, .slice ad8 n8 c8, .slice ae8 m8 d8]), (fun w v => Wc w v (Rat.floor (((rawZ nega1 xa1 6 : Int) : Rat) / ((rawZ negb1 xb1 6 : Int) : Rat)))), (fun _ v => v = .agg #[.bool b10, .slice ad10 n10 c10, .slice ae10 m10 d10]), (fun w v => Rz w v (Rat.floor (((rawZ nega1 xa1 6 : Int) : Rat) / ((rawZ negb1 xb1 6 : Int) : Rat)))), (fun _ v => v = .int .i64 0), (fun _ v => v = .bool false), (fun _ v => v = .bool false), (fun _ v => v = .agg #[.bool b8, .slice ad8 n8 c8, .slice ae8 m8 d8]), (fun w v => Wc w v (Rat.ceil (((rawZ nega1 xa1 6 : Int) : Rat) / ((rawZ negb1 xb1 6 : Int) : Rat)))), (fun _ v => v = .agg #[.bool b10, .slice ad10 n10 c10, .slice ae10 m10 d10]), (fun w v => Rz w v (Rat.ceil (((rawZ nega1 xa1 6 : Int) : Rat) / ((rawZ negb1 xb1 6 : Int) : Rat)))), (fun _ v => v = .int .i64 0), (fun _ v => v = .bool false), (fun _ v => v = .bool false), (fun _ v => v = .bool false), (fun _ v => v = .agg #[.bool b8, .slice ad8 n8 c8, .slice ae8 m8 d8]), (fun w v => Wc w v (Rat.floor ((((rawZ nega1 xa1 6 : Int) : Rat) / ((rawZ negb1 xb1 6 : Int) : Rat)) + ((1 : Int) : Rat) / ((2 : Int) : Rat)))), (fun _ v => v = .agg #[.bool b10, .slice ad10 n10 c10, .slice ae10 m10 d10]), (fun w v => Rz w v (Rat.floor ((((rawZ nega1 xa1 6 : Int) : Rat) / ((rawZ negb1 xb1 6 : Int) : Rat)) + ((1 : Int) : Rat) / ((2 : Int) : Rat)))), (fun _ v => v = .int .i64 0), (fun _ v => v = .bool false), (fun _ v => v = .bool false), (fun _ v => v = .bool false), (fun _ v => v = .int .i64 (sm64 (Rat.floor (((rawZ nega1 xa1 6 : Int) : Rat) / ((rawZ negb1 xb1 6 : Int) : Rat))))), (fun _ v => v = .int .i64 (sm64 (Rat.floor (((rawZ nega1 xa1 6 : Int) : Rat) / ((rawZ negb1 xb1 6 : Int) : Rat))))), (fun _ v => v = .bool false), (fun _ v => v = .bool false), (fun _ v => v = .bool false), (fun _ v => v = .bool (fit64 (Rat.floor (((rawZ nega1 xa1 6 : Int) : Rat) / ((rawZ negb1 xb1 6 : Int) : Rat))))), (fun _ v => v = .bool (fit64 (Rat.floor (((rawZ nega1 xa1 6 : Int) : Rat) / ((rawZ negb1 xb1 6 : Int) : Rat))))), (fun _ v => v = .bool false), (fun _ v => v = .bool false)] [] (by decide +kernel) (by decide +kernel) rfl rfl rfl ⟨(Mb.eq _), (fun _ _ _ h hb => h.below hb), (Mb.eq _), (fun _ _ _ h hb => h.below hb), (Mb.eq _), (Mb.eq _), (Mb.eq _), (Mb.eq _), (fun _ _ _ h hb => h.below hb), (Mb.eq _), (fun _ _ _ h hb => h.below hb), (Mb.eq _), (Mb.eq _), (Mb.eq _), (Mb.eq _), (Mb.eq _), (fun _ _ _ h hb => h.below hb), (Mb.eq _), (fun _ _ _ h hb => h.below hb), (Mb.eq _), (Mb.eq _), (Mb.eq _), (Mb.eq _), (Mb.eq _), (Mb.eq _), (Mb.eq _), (Mb.eq _), (Mb.eq _), (Mb.eq _), (Mb.eq _), (Mb.eq _), (Mb.eq _), trivial⟩ trivial ⟨?_, ?_, ?_, ?_, ?_, ?_, ?_, ?_, ?_, ?_, ?_, ?_, ?_, ?_, ?_, ?_, ?_, ?_, ?_, ?_, ?_, ?_, ?_, ?_, ?_, ?_, ?_, ?_, ?_, ?_, ?_, ?_, trivial⟩ ?_
  · intro a' w' hF' hb hd
    exact if_does (wanted_free rfl) (Does.vals (r_load (hF'.at 20 rfl) (ld_Rat (vs := [.bool b8, .slice ad8 n8 c8, .slice ae8 m8 d8]) (o3.below hb) rfl rfl)) ⟨rfl, Below.refl _ _, (fun h => absurd h (by decide))⟩)
  · intro a' w' hF' hb hd
    have e30 : a'.tmps.getD 30 undef = .agg #[.bool b8, .slice ad8 n8 c8, .slice ae8 m8 d8] := hd _ 30 (Array.mem_of_getElem? (i := 0) rfl) rfl rfl
    refine if_does (wanted_free rfl) (Does.calls (r_call Tryz.func13 en13.1 en13.2 (map1 e30)) (cFloor_any _ (((rawZ nega1 xa1 6 : Int) : Rat) / ((rawZ negb1 xb1 6 : Int) : Rat)) 6 _ (hh5.below hb) (own5_lim nega1 negb1 oka1 okb1 6 (by decide)) (by omega)) ?_)
    rintro e w'' ⟨v', rfl, h', bb⟩
    exact ⟨_, rfl, h', bb, (fun h => absurd h (by decide))⟩
  · intro a' w' hF' hb hd
    exact if_does (wanted_free rfl) (Does.vals (r_load (hF'.at 19 rfl) (ld_RRat (vs := [.bool b10, .slice ad10 n10 c10, .slice ae10 m10 d10]) (o4.below hb) rfl rfl)) ⟨rfl, Below.refl _ _, (fun h => absurd h (by decide))⟩)
  · intro a' w' hF' hb hd
    have e32 : a'.tmps.getD 32 undef = .agg #[.bool b10, .slice ad10 n10 c10, .slice ae10 m10 d10] := hd _ 32 (Array.mem_of_getElem? (i := 0) rfl) rfl rfl
    refine if_does (wanted_free rfl) (Does.calls (r_call Tryz.func17 en17.1 en17.2 (map1 e32)) (dFloor_any _ (((rawZ nega1 xa1 6 : Int) : Rat) / ((rawZ negb1 xb1 6 : Int) : Rat)) 6 _ (hh7.below hb) (by omega) (by omega)) ?_)
    rintro e w'' ⟨v', rfl, h', bb⟩
    exact ⟨_, rfl, h', bb, (fun h => absurd h (by decide))⟩
  · intro a' w' hF' hb hd
    obtain ⟨v31_0, e31, h31_1⟩ : ∃ v, a'.tmps.getD 31 undef = v ∧ Wc w' v (Rat.floor (((rawZ nega1 xa1 6 : Int) : Rat) / ((rawZ negb1 xb1 6 : Int) : Rat))) := ⟨_, rfl, hd _ 31 (Array.mem_of_getElem? (i := 0) rfl) rfl rfl⟩
    obtain ⟨v33_0, e33, h33_1⟩ : ∃ v, a'.tmps.getD 33 undef = v ∧ Rz w' v (Rat.floor (((rawZ nega1 xa1 6 : Int) : Rat) / ((rawZ negb1 xb1 6 : Int) : Rat))) := ⟨_, rfl, hd _ 33 (Array.mem_of_getElem? (i := 1) rfl) rfl rfl⟩
    refine if_does (wanted_free rfl) (Does.calls (r_call Tryz.func16 en16.1 en16.2 (map2 e31 e33)) (Is3_any _ _ (Rat.floor (((rawZ nega1 xa1 6 : Int) : Rat) / ((rawZ negb1 xb1 6 : Int) : Rat))) _ h31_1 h33_1) ?_)
    rintro e w'' ⟨rfl, bb⟩
    exact ⟨_, rfl, rfl, bb, (fun h => absurd h (by decide))⟩
  · intro a' w' hF' hb hd
    have e34 : a'.tmps.getD 34 undef = .int .i64 0 := hd _ 34 (Array.mem_of_getElem? (i := 0) rfl) rfl rfl
    exact if_does (wanted_free rfl) (Does.vals (r_bin e34 ev_c eg_scalar (bi_int (ic_neq (c := false) (by decide)) (by simp))) ⟨rfl, Below.refl _ _, (fun h => absurd h (by decide))⟩)
  · intro a' w' hF' hb hd
    have e35 : a'.tmps.getD 35 undef = .bool false := hd _ 35 (Array.mem_of_getElem? (i := 0) rfl) rfl rfl
    exact if_does (wanted_free rfl) (Does.vals (r_move e35) ⟨rfl, Below.refl _ _, (fun h => absurd h (by decide))⟩)
  · intro a' w' hF' hb hd
    have e36 : a'.tmps.getD 36 undef = .bool false := hd _ 36 (Array.mem_of_getElem? (i := 0) rfl) rfl rfl
    exact if_does (wanted_by rfl rfl e36 rfl) (Does.vals (r_load (hF'.at 20 rfl) (ld_Rat (vs := [.bool b8, .slice ad8 n8 c8, .slice ae8 m8 d8]) (o3.below hb) rfl rfl)) ⟨rfl, Below.refl _ _, (fun h => absurd h (by decide))⟩)
  · intro a' w' hF' hb hd
    have e36 : a'.tmps.getD 36 undef = .bool false := hd _ 36 (Array.mem_of_getElem? (i := 1) rfl) rfl rfl
    have e37 : a'.tmps.getD 37 undef = .agg #[.bool b8, .slice ad8 n8 c8, .slice ae8 m8 d8] := hd _ 37 (Array.mem_of_getElem? (i := 0) rfl) rfl rfl
    refine if_does (wanted_by rfl rfl e36 rfl) (Does.calls (r_call Tryz.func18 en18.1 en18.2 (map1 e37)) (cCeil_any _ (((rawZ nega1 xa1 6 : Int) : Rat) / ((rawZ negb1 xb1 6 : Int) : Rat)) 6 _ (hh5.below hb) (own5_lim nega1 negb1 oka1 okb1 6 (by decide)) (by omega)) ?_)
    rintro e w'' ⟨v', rfl, h', bb⟩
    exact ⟨_, rfl, h', bb, (fun h => absurd h (by decide))⟩
  · intro a' w' hF' hb hd
    have e36 : a'.tmps.getD 36 undef = .bool false := hd _ 36 (Array.mem_of_getElem? (i := 0) rfl) rfl rfl
    exact if_does (wanted_by rfl rfl e36 rfl) (Does.vals (r_load (hF'.at 19 rfl) (ld_RRat (vs := [.bool b10, .slice ad10 n10 c10, .slice ae10 m10 d10]) (o4.below hb) rfl rfl)) ⟨rfl, Below.refl _ _, (fun h => absurd h (by decide))⟩)
  · intro a' w' hF' hb hd
    have e36 : a'.tmps.getD 36 undef = .bool false := hd _ 36 (Array.mem_of_getElem? (i := 2) rfl) rfl rfl
    have e39 : a'.tmps.getD 39 undef = .agg #[.bool b10, .slice ad10 n10 c10, .slice ae10 m10 d10] := hd _ 39 (Array.mem_of_getElem? (i := 0) rfl) rfl rfl
    refine if_does (wanted_by rfl rfl e36 rfl) (Does.calls (r_call Tryz.func19 en19.1 en19.2 (map1 e39)) (dCeil_any _ (((rawZ nega1 xa1 6 : Int) : Rat) / ((rawZ negb1 xb1 6 : Int) : Rat)) 6 _ (hh7.below hb) (by omega) (by omega)) ?_)
    rintro e w'' ⟨v', rfl, h', bb⟩
    exact ⟨_, rfl, h', bb, (fun h => absurd h (by decide))⟩
  · intro a' w' hF' hb hd
    have e36 : a'.tmps.getD 36 undef = .bool false := hd _ 36 (Array.mem_of_getElem? (i := 3) rfl) rfl rfl
    obtain ⟨v38_0, e38, h38_1⟩ : ∃ v, a'.tmps.getD 38 undef = v ∧ Wc w' v (Rat.ceil (((rawZ nega1 xa1 6 : Int) : Rat) / ((rawZ negb1 xb1 6 : Int) : Rat))) := ⟨_, rfl, hd _ 38 (Array.mem_of_getElem? (i := 0) rfl) rfl rfl⟩
    obtain ⟨v40_0, e40, h40_1⟩ : ∃ v, a'.tmps.getD 40 undef = v ∧ Rz w' v (Rat.ceil (((rawZ nega1 xa1 6 : Int) : Rat) / ((rawZ negb1 xb1 6 : Int) : Rat))) := ⟨_, rfl, hd _ 40 (Array.mem_of_getElem? (i := 1) rfl) rfl rfl⟩
    refine if_does (wanted_by rfl rfl e36 rfl) (Does.calls (r_call Tryz.func16 en16.1 en16.2 (map2 e38 e40)) (Is3_any _ _ (Rat.ceil (((rawZ nega1 xa1 6 : Int) : Rat) / ((rawZ negb1 xb1 6 : Int) : Rat))) _ h38_1 h40_1) ?_)
    rintro e w'' ⟨rfl, bb⟩
    exact ⟨_, rfl, rfl, bb, (fun h => absurd h (by decide))⟩
  · intro a' w' hF' hb hd
    have e36 : a'.tmps.getD 36 undef = .bool false := hd _ 36 (Array.mem_of_getElem? (i := 1) rfl) rfl rfl
    have e41 : a'.tmps.getD 41 undef = .int .i64 0 := hd _ 41 (Array.mem_of_getElem? (i := 0) rfl) rfl rfl
    exact if_does (wanted_by rfl rfl e36 rfl) (Does.vals (r_bin e41 ev_c eg_scalar (bi_int (ic_neq (c := false) (by decide)) (by simp))) ⟨rfl, Below.refl _ _, (fun h => absurd h (by decide))⟩)
  · intro a' w' hF' hb hd
    have e36 : a'.tmps.getD 36 undef = .bool false := hd _ 36 (Array.mem_of_getElem? (i := 0) rfl) rfl rfl
    have e42 : a'.tmps.getD 42 undef = .bool false := hd _ 42 (Array.mem_of_getElem? (i := 1) rfl) rfl rfl
    exact if_does (wanted_free rfl) (Does.vals (r_pick_f e36 e42) ⟨rfl, Below.refl _ _, (fun h => absurd h (by decide))⟩)
  · intro a' w' hF' hb hd
    have e43 : a'.tmps.getD 43 undef = .bool false := hd _ 43 (Array.mem_of_getElem? (i := 0) rfl) rfl rfl
    exact if_does (wanted_free rfl) (Does.vals (r_move e43) ⟨rfl, Below.refl _ _, (fun h => absurd h (by decide))⟩)
  · intro a' w' hF' hb hd
    have e44 : a'.tmps.getD 44 undef = .bool false := hd _ 44 (Array.mem_of_getElem? (i := 0) rfl) rfl rfl
    exact if_does (wanted_by rfl rfl e44 rfl) (Does.vals (r_load (hF'.at 20 rfl) (ld_Rat (vs := [.bool b8, .slice ad8 n8 c8, .slice ae8 m8 d8]) (o3.below hb) rfl rfl)) ⟨rfl, Below.refl _ _, (fun h => absurd h (by decide))⟩)
  · intro a' w' hF' hb hd
    have e44 : a'.tmps.getD 44 undef = .bool false := hd _ 44 (Array.mem_of_getElem? (i := 1) rfl) rfl rfl
    have e45 : a'.tmps.getD 45 undef = .agg #[.bool b8, .slice ad8 n8 c8, .slice ae8 m8 d8] := hd _ 45 (Array.mem_of_getElem? (i := 0) rfl) rfl rfl
    refine if_does (wanted_by rfl rfl e44 rfl) (Does.calls (r_call Tryz.func20 en20.1 en20.2 (map1 e45)) (cRound_any _ (((rawZ nega1 xa1 6 : Int) : Rat) / ((rawZ negb1 xb1 6 : Int) : Rat)) 6 _ (hh5.below hb) (own5_lim nega1 negb1 oka1 okb1 6 (by decide)) (by omega)) ?_)
    rintro e w'' ⟨v', rfl, h', bb⟩
    exact ⟨_, rfl, h', bb, (fun h => absurd h (by decide))⟩
  · intro a' w' hF' hb hd
    have e44 : a'.tmps.getD 44 undef = .bool false := hd _ 44 (Array.mem_of_getElem? (i := 0) rfl) rfl rfl
    exact if_does (wanted_by rfl rfl e44 rfl) (Does.vals (r_load (hF'.at 19 rfl) (ld_RRat (vs := [.bool b10, .slice ad10 n10 c10, .slice ae10 m10 d10]) (o4.below hb) rfl rfl)) ⟨rfl, Below.refl _ _, (fun h => absurd h (by decide))⟩)
  · intro a' w' hF' hb hd
    have e44 : a'.tmps.getD 44 undef = .bool false := hd _ 44 (Array.mem_of_getElem? (i := 2) rfl) rfl rfl
    have e47 : a'.tmps.getD 47 undef = .agg #[.bool b10, .slice ad10 n10 c10, .slice ae10 m10 d10] := hd _ 47 (Array.mem_of_getElem? (i := 0) rfl) rfl rfl
    refine if_does (wanted_by rfl rfl e44 rfl) (Does.calls (r_call Tryz.func21 en21.1 en21.2 (map1 e47)) (dRound_any _ (((rawZ nega1 xa1 6 : Int) : Rat) / ((rawZ negb1 xb1 6 : Int) : Rat)) 6 _ (hh7.below hb) (by omega) (by omega)) ?_)
    rintro e w'' ⟨v', rfl, h', bb⟩
    exact ⟨_, rfl, h', bb, (fun h => absurd h (by decide))⟩
  · intro a' w' hF' hb hd
    have e44 : a'.tmps.getD 44 undef = .bool false := hd _ 44 (Array.mem_of_getElem? (i := 3) rfl) rfl rfl
    obtain ⟨v46_0, e46, h46_1⟩ : ∃ v, a'.tmps.getD 46 undef = v ∧ Wc w' v (Rat.floor ((((rawZ nega1 xa1 6 : Int) : Rat) / ((rawZ negb1 xb1 6 : Int) : Rat)) + ((1 : Int) : Rat) / ((2 : Int) : Rat))) := ⟨_, rfl, hd _ 46 (Array.mem_of_getElem? (i := 0) rfl) rfl rfl⟩
    obtain ⟨v48_0, e48, h48_1⟩ : ∃ v, a'.tmps.getD 48 undef = v ∧ Rz w' v (Rat.floor ((((rawZ nega1 xa1 6 : Int) : Rat) / ((rawZ negb1 xb1 6 : Int) : Rat)) + ((1 : Int) : Rat) / ((2 : Int) : Rat))) := ⟨_, rfl, hd _ 48 (Array.mem_of_getElem? (i := 1) rfl) rfl rfl⟩
    refine if_does (wanted_by rfl rfl e44 rfl) (Does.calls (r_call Tryz.func16 en16.1 en16.2 (map2 e46 e48)) (Is3_any _ _ (Rat.floor ((((rawZ nega1 xa1 6 : Int) : Rat) / ((rawZ negb1 xb1 6 : Int) : Rat)) + ((1 : Int) : Rat) / ((2 : Int) : Rat))) _ h46_1 h48_1) ?_)
    rintro e w'' ⟨rfl, bb⟩
    exact ⟨_, rfl, rfl, bb, (fun h => absurd h (by decide))⟩
  · intro a' w' hF' hb hd
    have e44 : a'.tmps.getD 44 undef = .bool false := hd _ 44 (Array.mem_of_getElem? (i := 1) rfl) rfl rfl
    have e49 : a'.tmps.getD 49 undef = .int .i64 0 := hd _ 49 (Array.mem_of_getElem? (i := 0) rfl) rfl rfl
    exact if_does (wanted_by rfl rfl e44 rfl) (Does.vals (r_bin e49 ev_c eg_scalar (bi_int (ic_neq (c := false) (by decide)) (by simp))) ⟨rfl, Below.refl _ _, (fun h => absurd h (by decide))⟩)
  · intro a' w' hF' hb hd
    have e44 : a'.tmps.getD 44 undef = .bool false := hd _ 44 (Array.mem_of_getElem? (i := 0) rfl) rfl rfl
    have e50 : a'.tmps.getD 50 undef = .bool false := hd _ 50 (Array.mem_of_getElem? (i := 1) rfl) rfl rfl
    exact if_does (wanted_free rfl) (Does.vals (r_pick_f e44 e50) ⟨rfl, Below.refl _ _, (fun h => absurd h (by decide))⟩)
  · intro a' w' hF' hb hd
    have e51 : a'.tmps.getD 51 undef = .bool false := hd _ 51 (Array.mem_of_getElem? (i := 0) rfl) rfl rfl
    exact if_does (wanted_free rfl) (Does.vals (r_move e51) ⟨rfl, Below.refl _ _, (fun h => absurd h (by decide))⟩)
  · intro a' w' hF' hb hd
    have e52 : a'.tmps.getD 52 undef = .bool false := hd _ 52 (Array.mem_of_getElem? (i := 0) rfl) rfl rfl
    exact if_does (wanted_by rfl rfl e52 rfl) (Does.vals (r_move (hF'.at 9 rfl)) ⟨rfl, Below.refl _ _, (fun h => absurd h (by decide))⟩)
  · intro a' w' hF' hb hd
    have e52 : a'.tmps.getD 52 undef = .bool false := hd _ 52 (Array.mem_of_getElem? (i := 0) rfl) rfl rfl
    exact if_does (wanted_by rfl rfl e52 rfl) (Does.vals (r_move (hF'.at 1 rfl)) ⟨rfl, Below.refl _ _, (fun h => absurd h (by decide))⟩)
  · intro a' w' hF' hb hd
    have e52 : a'.tmps.getD 52 undef = .bool false := hd _ 52 (Array.mem_of_getElem? (i := 2) rfl) rfl rfl
    have e53 : a'.tmps.getD 53 undef = .int .i64 (sm64 (Rat.floor (((rawZ nega1 xa1 6 : Int) : Rat) / ((rawZ negb1 xb1 6 : Int) : Rat)))) := hd _ 53 (Array.mem_of_getElem? (i := 0) rfl) rfl rfl
    have e54 : a'.tmps.getD 54 undef = .int .i64 (sm64 (Rat.floor (((rawZ nega1 xa1 6 : Int) : Rat) / ((rawZ negb1 xb1 6 : Int) : Rat)))) := hd _ 54 (Array.mem_of_getElem? (i := 1) rfl) rfl rfl
    exact if_does (wanted_by rfl rfl e52 rfl) (Does.vals (r_bin e53 e54 eg_scalar (bi_int (ic_neq (c := false) (by simp)) (by simp))) ⟨rfl, Below.refl _ _, (fun h => absurd h (by decide))⟩)
  · intro a' w' hF' hb hd
    have e52 : a'.tmps.getD 52 undef = .bool false := hd _ 52 (Array.mem_of_getElem? (i := 0) rfl) rfl rfl
    have e55 : a'.tmps.getD 55 undef = .bool false := hd _ 55 (Array.mem_of_getElem? (i := 1) rfl) rfl rfl
    exact if_does (wanted_free rfl) (Does.vals (r_pick_f e52 e55) ⟨rfl, Below.refl _ _, (fun h => absurd h (by decide))⟩)
  · intro a' w' hF' hb hd
    have e56 : a'.tmps.getD 56 undef = .bool false := hd _ 56 (Array.mem_of_getElem? (i := 0) rfl) rfl rfl
    exact if_does (wanted_free rfl) (Does.vals (r_move e56) ⟨rfl, Below.refl _ _, (fun h => absurd h (by decide))⟩)
  · intro a' w' hF' hb hd
    have e57 : a'.tmps.getD 57 undef = .bool false := hd _ 57 (Array.mem_of_getElem? (i := 0) rfl) rfl rfl
    exact if_does (wanted_by rfl rfl e57 rfl) (Does.vals (r_move (hF'.at 8 rfl)) ⟨rfl, Below.refl _ _, (fun h => absurd h (by decide))⟩)
  · intro a' w' hF' hb hd
    have e57 : a'.tmps.getD 57 undef = .bool false := hd _ 57 (Array.mem_of_getElem? (i := 0) rfl) rfl rfl
    exact if_does (wanted_by rfl rfl e57 rfl) (Does.vals (r_move (hF'.at 0 rfl)) ⟨rfl, Below.refl _ _, (fun h => absurd h (by decide))⟩)
  · intro a' w' hF' hb hd
    have e57 : a'.tmps.getD 57 undef = .bool false := hd _ 57 (Array.mem_of_getElem? (i := 2) rfl) rfl rfl
    have e58 : a'.tmps.getD 58 undef = .bool (fit64 (Rat.floor (((rawZ nega1 xa1 6 : Int) : Rat) / ((rawZ negb1 xb1 6 : Int) : Rat)))) := hd _ 58 (Array.mem_of_getElem? (i := 0) rfl) rfl rfl
    have e59 : a'.tmps.getD 59 undef = .bool (fit64 (Rat.floor (((rawZ nega1 xa1 6 : Int) : Rat) / ((rawZ negb1 xb1 6 : Int) : Rat)))) := hd _ 59 (Array.mem_of_getElem? (i := 1) rfl) rfl rfl
    exact if_does (wanted_by rfl rfl e57 rfl) (Does.vals (r_bin e58 e59 eg_bool (bb_neq (d := false) (ne_false _))) ⟨rfl, Below.refl _ _, (fun h => absurd h (by decide))⟩)
  · intro a' w' hF' hb hd
    have e57 : a'.tmps.getD 57 undef = .bool false := hd _ 57 (Array.mem_of_getElem? (i := 0) rfl) rfl rfl
    have e60 : a'.tmps.getD 60 undef = .bool false := hd _ 60 (Array.mem_of_getElem? (i := 1) rfl) rfl rfl
    exact if_does (wanted_free rfl) (Does.vals (r_pick_f e57 e60) ⟨rfl, Below.refl _ _, (fun h => absurd h (by decide))⟩)
  intro a w30 hF bb hall hne
  have e61 : a.tmps.getD 61 undef = .bool false := hall 31 61 rfl
  clear hall hne
  replace hf9 := hf9.below bb
  replace hd8 := hd8.below bb
  replace hh5 := hh5.below bb
  replace hn8 := hn8.below bb
  replace hf21 := hf21.below bb
  replace hd20 := hd20.below bb
  replace hh19 := hh19.below bb
  replace hn20 := hn20.below bb
  replace o3 := o3.below bb
  replace o5 := o5.below bb
  replace bel := below_to bel bb
  clear bb
  replace hF := hF.add e61
  clear e61
  refine E.nil ?_
  refine wp_cond_false (hF.at 0 rfl) ?_
  refine wp_skip ?_
  refine E.norm ?_
  refine wp_seq ?_
  refine E.drawn 31 mixed hF [62, 63, 64, 65, 66, 67, 68, 69, 70, 71, 72, 73, 74, 75, 76, 77, 78, 79, 80, 81, 82, 83, 84, 85, 86, 87, 88, 89, 90, 91, 92] [(fun _ v => v = .agg #[.bool b20, .slice ad20 n20 c20, .slice ae20 m20 d20]), (fun _ v => v = .agg #[.bool b8, .slice ad8 n8 c8, .slice ae8 m8 d8]), (fun _ v => v = .int .i64 (qc (((Rat.floor (((rawZ nega1 xa1 6 : Int) : Rat) / ((rawZ negb1 xb1 6 : Int) : Rat)) : Int) : Rat)) (((rawZ nega1 xa1 6 : Int) : Rat) / ((rawZ negb1 xb1 6 : Int) : Rat)))), (fun _ v => v = .bool true), (fun _ v => v = .bool true), (fun _ v => v = .agg #[.bool b20, .slice ad20 n20 c20, .slice ae20 m20 d20]), (fun w v => Rq w v (((1 : Int) : Rat))), (fun w v => Rq w v ((((Rat.floor (((rawZ nega1 xa1 6 : Int) : Rat) / ((rawZ negb1 xb1 6 : Int) : Rat)) : Int) : Rat)) + (((1 : Int) : Rat)))), (fun _ v => v = .agg #[.bool b8, .slice ad8 n8 c8, .slice ae8 m8 d8]), (fun _ v => v = .int .i64 (qc ((((Rat.floor (((rawZ nega1 xa1 6 : Int) : Rat) / ((rawZ negb1 xb1 6 : Int) : Rat)) : Int) : Rat)) + (((1 : Int) : Rat))) (((rawZ nega1 xa1 6 : Int) : Rat) / ((rawZ negb1 xb1 6 : Int) : Rat)))), (fun _ v => v = .bool true), (fun _ v => v = .bool true), (fun _ v => v = .bool true), (fun _ v => v = .agg #[.bool b8, .slice ad8 n8 c8, .slice ae8 m8 d8]), (fun w v => Rq w v ((((rawZ nega1 xa1 6 : Int) : Rat) / ((rawZ negb1 xb1 6 : Int) : Rat)) - ((Rat.floor (((rawZ nega1 xa1 6 : Int) : Rat) / ((rawZ negb1 xb1 6 : Int) : Rat)) : Int) : Rat))), (fun _ v => v = .agg #[.bool b20, .slice ad20 n20 c20, .slice ae20 m20 d20]), (fun w v => Rq w v (((((rawZ nega1 xa1 6 : Int) : Rat) / ((rawZ negb1 xb1 6 : Int) : Rat)) - ((Rat.floor (((rawZ nega1 xa1 6 : Int) : Rat) / ((rawZ negb1 xb1 6 : Int) : Rat)) : Int) : Rat)) + (((Rat.floor (((rawZ nega1 xa1 6 : Int) : Rat) / ((rawZ negb1 xb1 6 : Int) : Rat)) : Int) : Rat)))), (fun _ v => v = .agg #[.bool b8, .slice ad8 n8 c8, .slice ae8 m8 d8]), (fun _ v => v = .bool true), (fun _ v => v = .bool true), (fun _ v => v = .bool true), (fun _ v => v = .agg #[.bool b8, .slice ad8 n8 c8, .slice ae8 m8 d8]), (fun w v => Wc w v (Rat.floor ((((rawZ nega1 xa1 6 : Int) : Rat) / ((rawZ negb1 xb1 6 : Int) : Rat)) + ((1 : Int) : Rat) / ((2 : Int) : Rat)))), (fun w v => Rq w v (((Rat.floor ((((rawZ nega1 xa1 6 : Int) : Rat) / ((rawZ negb1 xb1 6 : Int) : Rat)) + ((1 : Int) : Rat) / ((2 : Int) : Rat)) : Int) : Rat))), (fun _ v => v = .agg #[.bool b8, .slice ad8 n8 c8, .slice ae8 m8 d8]), (fun w v => Rq w v ((((Rat.floor ((((rawZ nega1 xa1 6 : Int) : Rat) / ((rawZ negb1 xb1 6 : Int) : Rat)) + ((1 : Int) : Rat) / ((2 : Int) : Rat)) : Int) : Rat)) - (((rawZ nega1 xa1 6 : Int) : Rat) / ((rawZ negb1 xb1 6 : Int) : Rat)))), (fun w v => Rq w v (Rat.abs ((((Rat.floor ((((rawZ nega1 xa1 6 : Int) : Rat) / ((rawZ negb1 xb1 6 : Int) : Rat)) + ((1 : Int) : Rat) / ((2 : Int) : Rat)) : Int) : Rat)) - (((rawZ nega1 xa1 6 : Int) : Rat) / ((rawZ negb1 xb1 6 : Int) : Rat))))), (fun w v => Rq w v (((1 : Int) : Rat) / ((2 : Int) : Rat))), (fun _ v => v = .int .i64 (qc (Rat.abs ((((Rat.floor ((((rawZ nega1 xa1 6 : Int) : Rat) / ((rawZ negb1 xb1 6 : Int) : Rat)) + ((1 : Int) : Rat) / ((2 : Int) : Rat)) : Int) : Rat)) - (((rawZ nega1 xa1 6 : Int) : Rat) / ((rawZ negb1 xb1 6 : Int) : Rat)))) (((1 : Int) : Rat) / ((2 : Int) : Rat)))), (fun _ v => v = .bool true), (fun _ v => v = .bool true)] [] (by decide +kernel) (by decide +kernel) rfl rfl rfl ⟨(Mb.eq _), (Mb.eq _), (Mb.eq _), (Mb.eq _), (Mb.eq _), (Mb.eq _), (fun _ _ _ h hb => h.below hb), (fun _ _ _ h hb => h.below hb), (Mb.eq _), (Mb.eq _), (Mb.eq _), (Mb.eq _), (Mb.eq _), (Mb.eq _), (fun _ _ _ h hb => h.below hb), (Mb.eq _), (fun _ _ _ h hb => h.below hb), (Mb.eq _), (Mb.eq _), (Mb.eq _), (Mb.eq _), (Mb.eq _), (fun _ _ _ h hb => h.below hb), (fun _ _ _ h hb => h.below hb), (Mb.eq _), (fun _ _ _ h hb => h.below hb), (fun _ _ _ h hb => h.below hb), (fun _ _ _ h hb => h.below hb), (Mb.eq _), (Mb.eq _), (Mb.eq _), trivial⟩ trivial ⟨?_, ?_, ?_, ?_, ?_, ?_, ?_, ?_, ?_, ?_, ?_, ?_, ?_, ?_, ?_, ?_, ?_, ?_, ?_, ?_, ?_, ?_, ?_, ?_, ?_, ?_, ?_, ?_, ?_, ?_, ?_, trivial⟩ ?_
  · intro a' w' hF' hb hd
    exact if_does (wanted_free rfl) (Does.vals (r_load (hF'.at 16 rfl) (ld_Rat (vs := [.bool b20, .slice ad20 n20 c20, .slice ae20 m20 d20]) (o5.below hb) rfl rfl)) ⟨rfl, Below.refl _ _, (fun h => absurd h (by decide))⟩)
  · intro a' w' hF' hb hd
    exact if_does (wanted_free rfl) (Does.vals (r_load (hF'.at 21 rfl) (ld_Rat (vs := [.bool b8, .slice ad8 n8 c8, .slice ae8 m8 d8]) (o3.below hb) rfl rfl)) ⟨rfl, Below.refl _ _, (fun h => absurd h (by decide))⟩)
  · intro a' w' hF' hb hd
    have e62 : a'.tmps.getD 62 undef = .agg #[.bool b20, .slice ad20 n20 c20, .slice ae20 m20 d20] := hd _ 62 (Array.mem_of_getElem? (i := 0) rfl) rfl rfl
    have e63 : a'.tmps.getD 63 undef = .agg #[.bool b8, .slice ad8 n8 c8, .slice ae8 m8 d8] := hd _ 63 (Array.mem_of_getElem? (i := 1) rfl) rfl rfl
    refine if_does (wanted_free rfl) (Does.calls (r_call Tryz.func22 en22.1 en22.2 (map2 e62 e63)) (rCmp_any _ _ (((Rat.floor (((rawZ nega1 xa1 6 : Int) : Rat) / ((rawZ negb1 xb1 6 : Int) : Rat)) : Int) : Rat)) (((rawZ nega1 xa1 6 : Int) : Rat) / ((rawZ negb1 xb1 6 : Int) : Rat)) (max ((6 + 1) + 1) 6) _ (hh19.below hb) (hh5.below hb) ((rlim_int (Lim.up (fl_lim (own5_lim nega1 negb1 oka1 okb1 6 (by decide))) ((6 + 1) + 1) (by omega)) (by omega)).up _ (by omega)) ((own5_lim nega1 negb1 oka1 okb1 6 (by decide)).up _ (by omega)) (by omega)) ?_)
    rintro e w'' ⟨rfl, bb⟩
    exact ⟨_, rfl, rfl, bb, (fun h => absurd h (by decide))⟩
  · intro a' w' hF' hb hd
    have e64 : a'.tmps.getD 64 undef = .int .i64 (qc (((Rat.floor (((rawZ nega1 xa1 6 : Int) : Rat) / ((rawZ negb1 xb1 6 : Int) : Rat)) : Int) : Rat)) (((rawZ nega1 xa1 6 : Int) : Rat) / ((rawZ negb1 xb1 6 : Int) : Rat))) := hd _ 64 (Array.mem_of_getElem? (i := 0) rfl) rfl rfl
    exact if_does (wanted_free rfl) (Does.vals (r_bin e64 ev_c eg_scalar (bi_int (ic_leq (c := true) (dec_tt (qc_le.2 (Rat.floor_le _)))) (by simp))) ⟨rfl, Below.refl _ _, (fun h => absurd h (by decide))⟩)
  · intro a' w' hF' hb hd
    have e65 : a'.tmps.getD 65 undef = .bool true := hd _ 65 (Array.mem_of_getElem? (i := 0) rfl) rfl rfl
    exact if_does (wanted_free rfl) (Does.vals (r_move e65) ⟨rfl, Below.refl _ _, (fun h => absurd h (by decide))⟩)
  · intro a' w' hF' hb hd
    have e66 : a'.tmps.getD 66 undef = .bool true := hd _ 66 (Array.mem_of_getElem? (i := 0) rfl) rfl rfl
    exact if_does (wanted_by rfl rfl e66 rfl) (Does.vals (r_load (hF'.at 16 rfl) (ld_Rat (vs := [.bool b20, .slice ad20 n20 c20, .slice ae20 m20 d20]) (o5.below hb) rfl rfl)) ⟨rfl, Below.refl _ _, (fun h => absurd h (by decide))⟩)
  · intro a' w' hF' hb hd
    have e66 : a'.tmps.getD 66 undef = .bool true := hd _ 66 (Array.mem_of_getElem? (i := 0) rfl) rfl rfl
    refine if_does (wanted_by rfl rfl e66 rfl) (Does.calls (r_call Tryz.func24 en24.1 en24.2 (map1 ev_c)) (rWhole_any (1) _ (by decide) (by decide)) ?_)
    rintro e w'' ⟨v', rfl, h', bb⟩
    exact ⟨_, rfl, h', bb, (fun h => absurd h (by decide))⟩
  · intro a' w' hF' hb hd
    have e66 : a'.tmps.getD 66 undef = .bool true := hd _ 66 (Array.mem_of_getElem? (i := 3) rfl) rfl rfl
    have e67 : a'.tmps.getD 67 undef = .agg #[.bool b20, .slice ad20 n20 c20, .slice ae20 m20 d20] := hd _ 67 (Array.mem_of_getElem? (i := 0) rfl) rfl rfl
    obtain ⟨v68_0, e68, h68_1⟩ : ∃ v, a'.tmps.getD 68 undef = v ∧ Rq w' v (((1 : Int) : Rat)) := ⟨_, rfl, hd _ 68 (Array.mem_of_getElem? (i := 1) rfl) rfl rfl⟩
    refine if_does (wanted_by rfl rfl e66 rfl) (Does.calls (r_call Tryz.func23 en23.1 en23.2 (map2 e67 e68)) (rAdd_any _ _ (((Rat.floor (((rawZ nega1 xa1 6 : Int) : Rat) / ((rawZ negb1 xb1 6 : Int) : Rat)) : Int) : Rat)) (((1 : Int) : Rat)) (max ((6 + 1) + 1) 2) _ (hh19.below hb) h68_1 ((rlim_int (Lim.up (fl_lim (own5_lim nega1 negb1 oka1 okb1 6 (by decide))) ((6 + 1) + 1) (by omega)) (by omega)).up _ (by omega)) ((rlim_int (limz_64 (by decide) (by decide)) (by omega)).up _ (by omega)) (by omega)) ?_)
    rintro e w'' ⟨v', rfl, h', bb⟩
    exact ⟨_, rfl, h', bb, (fun h => absurd h (by decide))⟩
  · intro a' w' hF' hb hd
    have e66 : a'.tmps.getD 66 undef = .bool true := hd _ 66 (Array.mem_of_getElem? (i := 0) rfl) rfl rfl
    exact if_does (wanted_by rfl rfl e66 rfl) (Does.vals (r_load (hF'.at 21 rfl) (ld_Rat (vs := [.bool b8, .slice ad8 n8 c8, .slice ae8 m8 d8]) (o3.below hb) rfl rfl)) ⟨rfl, Below.refl _ _, (fun h => absurd h (by decide))⟩)
  · intro a' w' hF' hb hd
    have e66 : a'.tmps.getD 66 undef = .bool true := hd _ 66 (Array.mem_of_getElem? (i := 3) rfl) rfl rfl
    obtain ⟨v69_0, e69, h69_1⟩ : ∃ v, a'.tmps.getD 69 undef = v ∧ Rq w' v ((((Rat.floor (((rawZ nega1 xa1 6 : Int) : Rat) / ((rawZ negb1 xb1 6 : Int) : Rat)) : Int) : Rat)) + (((1 : Int) : Rat))) := ⟨_, rfl, hd _ 69 (Array.mem_of_getElem? (i := 0) rfl) rfl rfl⟩
    have e70 : a'.tmps.getD 70 undef = .agg #[.bool b8, .slice ad8 n8 c8, .slice ae8 m8 d8] := hd _ 70 (Array.mem_of_getElem? (i := 1) rfl) rfl rfl
    refine if_does (wanted_by rfl rfl e66 rfl) (Does.calls (r_call Tryz.func22 en22.1 en22.2 (map2 e69 e70)) (rCmp_any _ _ ((((Rat.floor (((rawZ nega1 xa1 6 : Int) : Rat) / ((rawZ negb1 xb1 6 : Int) : Rat)) : Int) : Rat)) + (((1 : Int) : Rat))) (((rawZ nega1 xa1 6 : Int) : Rat) / ((rawZ negb1 xb1 6 : Int) : Rat)) (max (((6 + 1) + 1) + 2 + 1) 6) _ h69_1 (hh5.below hb) ((rlim_add (rlim_int (Lim.up (fl_lim (own5_lim nega1 negb1 oka1 okb1 6 (by decide))) ((6 + 1) + 1) (by omega)) (by omega)) (rlim_int (limz_64 (by decide) (by decide)) (by omega))).up _ (by omega)) ((own5_lim nega1 negb1 oka1 okb1 6 (by decide)).up _ (by omega)) (by omega)) ?_)
    rintro e w'' ⟨rfl, bb⟩
    exact ⟨_, rfl, rfl, bb, (fun h => absurd h (by decide))⟩
  · intro a' w' hF' hb hd
    have e66 : a'.tmps.getD 66 undef = .bool true := hd _ 66 (Array.mem_of_getElem? (i := 1) rfl) rfl rfl
    have e71 : a'.tmps.getD 71 undef = .int .i64 (qc ((((Rat.floor (((rawZ nega1 xa1 6 : Int) : Rat) / ((rawZ negb1 xb1 6 : Int) : Rat)) : Int) : Rat)) + (((1 : Int) : Rat))) (((rawZ nega1 xa1 6 : Int) : Rat) / ((rawZ negb1 xb1 6 : Int) : Rat))) := hd _ 71 (Array.mem_of_getElem? (i := 0) rfl) rfl rfl
    exact if_does (wanted_by rfl rfl e66 rfl) (Does.vals (r_bin e71 ev_c eg_scalar (bi_int (ic_gtr (c := true) (dec_tt (qc_gt.2 (fl_lt1 _)))) (by simp))) ⟨rfl, Below.refl _ _, (fun h => absurd h (by decide))⟩)
  · intro a' w' hF' hb hd
    have e66 : a'.tmps.getD 66 undef = .bool true := hd _ 66 (Array.mem_of_getElem? (i := 0) rfl) rfl rfl
    have e72 : a'.tmps.getD 72 undef = .bool true := hd _ 72 (Array.mem_of_getElem? (i := 1) rfl) rfl rfl
    exact if_does (wanted_free rfl) (Does.vals (r_pick_t e66 e72) ⟨rfl, Below.refl _ _, (fun h => absurd h (by decide))⟩)
  · intro a' w' hF' hb hd
    have e73 : a'.tmps.getD 73 undef = .bool true := hd _ 73 (Array.mem_of_getElem? (i := 0) rfl) rfl rfl
    exact if_does (wanted_free rfl) (Does.vals (r_move e73) ⟨rfl, Below.refl _ _, (fun h => absurd h (by decide))⟩)
  · intro a' w' hF' hb hd
    have e74 : a'.tmps.getD 74 undef = .bool true := hd _ 74 (Array.mem_of_getElem? (i := 0) rfl) rfl rfl
    exact if_does (wanted_by rfl rfl e74 rfl) (Does.vals (r_load (hF'.at 21 rfl) (ld_Rat (vs := [.bool b8, .slice ad8 n8 c8, .slice ae8 m8 d8]) (o3.below hb) rfl rfl)) ⟨rfl, Below.refl _ _, (fun h => absurd h (by decide))⟩)
  · intro a' w' hF' hb hd
    have e74 : a'.tmps.getD 74 undef = .bool true := hd _ 74 (Array.mem_of_getElem? (i := 1) rfl) rfl rfl
    have e75 : a'.tmps.getD 75 undef = .agg #[.bool b8, .slice ad8 n8 c8, .slice ae8 m8 d8] := hd _ 75 (Array.mem_of_getElem? (i := 0) rfl) rfl rfl
    refine if_does (wanted_by rfl rfl e74 rfl) (Does.calls (r_call Tryz.func25 en25.1 en25.2 (map1 e75)) (cFrac_any _ (((rawZ nega1 xa1 6 : Int) : Rat) / ((rawZ negb1 xb1 6 : Int) : Rat)) 6 _ (hh5.below hb) (own5_lim nega1 negb1 oka1 okb1 6 (by decide)) (by omega)) ?_)
    rintro e w'' ⟨v', rfl, h', bb⟩
    exact ⟨_, rfl, h', bb, (fun h => absurd h (by decide))⟩
  · intro a' w' hF' hb hd
    have e74 : a'.tmps.getD 74 undef = .bool true := hd _ 74 (Array.mem_of_getElem? (i := 0) rfl) rfl rfl
    exact if_does (wanted_by rfl rfl e74 rfl) (Does.vals (r_load (hF'.at 16 rfl) (ld_Rat (vs := [.bool b20, .slice ad20 n20 c20, .slice ae20 m20 d20]) (o5.below hb) rfl rfl)) ⟨rfl, Below.refl _ _, (fun h => absurd h (by decide))⟩)
  · intro a' w' hF' hb hd
    have e74 : a'.tmps.getD 74 undef = .bool true := hd _ 74 (Array.mem_of_getElem? (i := 3) rfl) rfl rfl
    obtain ⟨v76_0, e76, h76_1⟩ : ∃ v, a'.tmps.getD 76 undef = v ∧ Rq w' v ((((rawZ nega1 xa1 6 : Int) : Rat) / ((rawZ negb1 xb1 6 : Int) : Rat)) - ((Rat.floor (((rawZ nega1 xa1 6 : Int) : Rat) / ((rawZ negb1 xb1 6 : Int) : Rat)) : Int) : Rat)) := ⟨_, rfl, hd _ 76 (Array.mem_of_getElem? (i := 0) rfl) rfl rfl⟩
    have e77 : a'.tmps.getD 77 undef = .agg #[.bool b20, .slice ad20 n20 c20, .slice ae20 m20 d20] := hd _ 77 (Array.mem_of_getElem? (i := 1) rfl) rfl rfl
    refine if_does (wanted_by rfl rfl e74 rfl) (Does.calls (r_call Tryz.func23 en23.1 en23.2 (map2 e76 e77)) (rAdd_any _ _ ((((rawZ nega1 xa1 6 : Int) : Rat) / ((rawZ negb1 xb1 6 : Int) : Rat)) - ((Rat.floor (((rawZ nega1 xa1 6 : Int) : Rat) / ((rawZ negb1 xb1 6 : Int) : Rat)) : Int) : Rat)) (((Rat.floor (((rawZ nega1 xa1 6 : Int) : Rat) / ((rawZ negb1 xb1 6 : Int) : Rat)) : Int) : Rat)) (max (6 + 6 + 3) ((6 + 1) + 1)) _ h76_1 (hh19.below hb) ((frac_lim (own5_lim nega1 negb1 oka1 okb1 6 (by decide))).up _ (by omega)) ((rlim_int (Lim.up (fl_lim (own5_lim nega1 negb1 oka1 okb1 6 (by decide))) ((6 + 1) + 1) (by omega)) (by omega)).up _ (by omega)) (by omega)) ?_)
    rintro e w'' ⟨v', rfl, h', bb⟩
    exact ⟨_, rfl, h', bb, (fun h => absurd h (by decide))⟩
  · intro a' w' hF' hb hd
    have e74 : a'.tmps.getD 74 undef = .bool true := hd _ 74 (Array.mem_of_getElem? (i := 0) rfl) rfl rfl
    exact if_does (wanted_by rfl rfl e74 rfl) (Does.vals (r_load (hF'.at 21 rfl) (ld_Rat (vs := [.bool b8, .slice ad8 n8 c8, .slice ae8 m8 d8]) (o3.below hb) rfl rfl)) ⟨rfl, Below.refl _ _, (fun h => absurd h (by decide))⟩)
  · intro a' w' hF' hb hd
    have e74 : a'.tmps.getD 74 undef = .bool true := hd _ 74 (Array.mem_of_getElem? (i := 3) rfl) rfl rfl
    obtain ⟨v78_0, e78, h78_1⟩ : ∃ v, a'.tmps.getD 78 undef = v ∧ Rq w' v (((((rawZ nega1 xa1 6 : Int) : Rat) / ((rawZ negb1 xb1 6 : Int) : Rat)) - ((Rat.floor (((rawZ nega1 xa1 6 : Int) : Rat) / ((rawZ negb1 xb1 6 : Int) : Rat)) : Int) : Rat)) + (((Rat.floor (((rawZ nega1 xa1 6 : Int) : Rat) / ((rawZ negb1 xb1 6 : Int) : Rat)) : Int) : Rat))) := ⟨_, rfl, hd _ 78 (Array.mem_of_getElem? (i := 0) rfl) rfl rfl⟩
    have e79 : a'.tmps.getD 79 undef = .agg #[.bool b8, .slice ad8 n8 c8, .slice ae8 m8 d8] := hd _ 79 (Array.mem_of_getElem? (i := 1) rfl) rfl rfl
    refine if_does (wanted_by rfl rfl e74 rfl) (Does.calls (r_call Tryz.func26 en26.1 en26.2 (map2 e78 e79)) (rSame_true _ _ (((((rawZ nega1 xa1 6 : Int) : Rat) / ((rawZ negb1 xb1 6 : Int) : Rat)) - ((Rat.floor (((rawZ nega1 xa1 6 : Int) : Rat) / ((rawZ negb1 xb1 6 : Int) : Rat)) : Int) : Rat)) + (((Rat.floor (((rawZ nega1 xa1 6 : Int) : Rat) / ((rawZ negb1 xb1 6 : Int) : Rat)) : Int) : Rat))) (((rawZ nega1 xa1 6 : Int) : Rat) / ((rawZ negb1 xb1 6 : Int) : Rat)) _ h78_1 (hh5.below hb) (frac_add _)) ?_)
    rintro e w'' ⟨rfl, bb⟩
    exact ⟨_, rfl, rfl, bb, (fun h => absurd h (by decide))⟩
  · intro a' w' hF' hb hd
    have e74 : a'.tmps.getD 74 undef = .bool true := hd _ 74 (Array.mem_of_getElem? (i := 0) rfl) rfl rfl
    have e80 : a'.tmps.getD 80 undef = .bool true := hd _ 80 (Array.mem_of_getElem? (i := 1) rfl) rfl rfl
    exact if_does (wanted_free rfl) (Does.vals (r_pick_t e74 e80) ⟨rfl, Below.refl _ _, (fun h => absurd h (by decide))⟩)
  · intro a' w' hF' hb hd
    have e81 : a'.tmps.getD 81 undef = .bool true := hd _ 81 (Array.mem_of_getElem? (i := 0) rfl) rfl rfl
    exact if_does (wanted_free rfl) (Does.vals (r_move e81) ⟨rfl, Below.refl _ _, (fun h => absurd h (by decide))⟩)
  · intro a' w' hF' hb hd
    have e82 : a'.tmps.getD 82 undef = .bool true := hd _ 82 (Array.mem_of_getElem? (i := 0) rfl) rfl rfl
    exact if_does (wanted_by rfl rfl e82 rfl) (Does.vals (r_load (hF'.at 21 rfl) (ld_Rat (vs := [.bool b8, .slice ad8 n8 c8, .slice ae8 m8 d8]) (o3.below hb) rfl rfl)) ⟨rfl, Below.refl _ _, (fun h => absurd h (by decide))⟩)
  · intro a' w' hF' hb hd
    have e82 : a'.tmps.getD 82 undef = .bool true := hd _ 82 (Array.mem_of_getElem? (i := 1) rfl) rfl rfl
    have e83 : a'.tmps.getD 83 undef = .agg #[.bool b8, .slice ad8 n8 c8, .slice ae8 m8 d8] := hd _ 83 (Array.mem_of_getElem? (i := 0) rfl) rfl rfl
    refine if_does (wanted_by rfl rfl e82 rfl) (Does.calls (r_call Tryz.func20 en20.1 en20.2 (map1 e83)) (cRound_any _ (((rawZ nega1 xa1 6 : Int) : Rat) / ((rawZ negb1 xb1 6 : Int) : Rat)) 6 _ (hh5.below hb) (own5_lim nega1 negb1 oka1 okb1 6 (by decide)) (by omega)) ?_)
    rintro e w'' ⟨v', rfl, h', bb⟩
    exact ⟨_, rfl, h', bb, (fun h => absurd h (by decide))⟩
  · intro a' w' hF' hb hd
    have e82 : a'.tmps.getD 82 undef = .bool true := hd _ 82 (Array.mem_of_getElem? (i := 2) rfl) rfl rfl
    obtain ⟨v84_0, e84, h84_1⟩ : ∃ v, a'.tmps.getD 84 undef = v ∧ Wc w' v (Rat.floor ((((rawZ nega1 xa1 6 : Int) : Rat) / ((rawZ negb1 xb1 6 : Int) : Rat)) + ((1 : Int) : Rat) / ((2 : Int) : Rat))) := ⟨_, rfl, hd _ 84 (Array.mem_of_getElem? (i := 0) rfl) rfl rfl⟩
    refine if_does (wanted_by rfl rfl e82 rfl) (Does.calls (r_call Tryz.func12 en12.1 en12.2 (map1 e84)) (cOf_any _ (Rat.floor ((((rawZ nega1 xa1 6 : Int) : Rat) / ((rawZ negb1 xb1 6 : Int) : Rat)) + ((1 : Int) : Rat) / ((2 : Int) : Rat))) _ (Wc.wz h84_1)) ?_)
    rintro e w'' ⟨v', rfl, h', bb⟩
    exact ⟨_, rfl, h', bb, (fun h => absurd h (by decide))⟩
  · intro a' w' hF' hb hd
    have e82 : a'.tmps.getD 82 undef = .bool true := hd _ 82 (Array.mem_of_getElem? (i := 0) rfl) rfl rfl
    exact if_does (wanted_by rfl rfl e82 rfl) (Does.vals (r_load (hF'.at 21 rfl) (ld_Rat (vs := [.bool b8, .slice ad8 n8 c8, .slice ae8 m8 d8]) (o3.below hb) rfl rfl)) ⟨rfl, Below.refl _ _, (fun h => absurd h (by decide))⟩)
  · intro a' w' hF' hb hd
    have e82 : a'.tmps.getD 82 undef = .bool true := hd _ 82 (Array.mem_of_getElem? (i := 3) rfl) rfl rfl
    obtain ⟨v85_0, e85, h85_1⟩ : ∃ v, a'.tmps.getD 85 undef = v ∧ Rq w' v (((Rat.floor ((((rawZ nega1 xa1 6 : Int) : Rat) / ((rawZ negb1 xb1 6 : Int) : Rat)) + ((1 : Int) : Rat) / ((2 : Int) : Rat)) : Int) : Rat)) := ⟨_, rfl, hd _ 85 (Array.mem_of_getElem? (i := 0) rfl) rfl rfl⟩
    have e86 : a'.tmps.getD 86 undef = .agg #[.bool b8, .slice ad8 n8 c8, .slice ae8 m8 d8] := hd _ 86 (Array.mem_of_getElem? (i := 1) rfl) rfl rfl
    refine if_does (wanted_by rfl rfl e82 rfl) (Does.calls (r_call Tryz.func27 en27.1 en27.2 (map2 e85 e86)) (rSub_any _ _ (((Rat.floor ((((rawZ nega1 xa1 6 : Int) : Rat) / ((rawZ negb1 xb1 6 : Int) : Rat)) + ((1 : Int) : Rat) / ((2 : Int) : Rat)) : Int) : Rat)) (((rawZ nega1 xa1 6 : Int) : Rat) / ((rawZ negb1 xb1 6 : Int) : Rat)) (max ((6 + 4) + 1) 6) _ h85_1 (hh5.below hb) ((rlim_int (Lim.up (round_lim (own5_lim nega1 negb1 oka1 okb1 6 (by decide))) ((6 + 4) + 1) (by omega)) (by omega)).up _ (by omega)) ((own5_lim nega1 negb1 oka1 okb1 6 (by decide)).up _ (by omega)) (by omega)) ?_)
    rintro e w'' ⟨v', rfl, h', bb⟩
    exact ⟨_, rfl, h', bb, (fun h => absurd h (by decide))⟩
  · intro a' w' hF' hb hd
    have e82 : a'.tmps.getD 82 undef = .bool true := hd _ 82 (Array.mem_of_getElem? (i := 2) rfl) rfl rfl
    obtain ⟨v87_0, e87, h87_1⟩ : ∃ v, a'.tmps.getD 87 undef = v ∧ Rq w' v ((((Rat.floor ((((rawZ nega1 xa1 6 : Int) : Rat) / ((rawZ negb1 xb1 6 : Int) : Rat)) + ((1 : Int) : Rat) / ((2 : Int) : Rat)) : Int) : Rat)) - (((rawZ nega1 xa1 6 : Int) : Rat) / ((rawZ negb1 xb1 6 : Int) : Rat))) := ⟨_, rfl, hd _ 87 (Array.mem_of_getElem? (i := 0) rfl) rfl rfl⟩
    refine if_does (wanted_by rfl rfl e82 rfl) (Does.calls (r_call Tryz.func28 en28.1 en28.2 (map1 e87)) (rAbs_any _ ((((Rat.floor ((((rawZ nega1 xa1 6 : Int) : Rat) / ((rawZ negb1 xb1 6 : Int) : Rat)) + ((1 : Int) : Rat) / ((2 : Int) : Rat)) : Int) : Rat)) - (((rawZ nega1 xa1 6 : Int) : Rat) / ((rawZ negb1 xb1 6 : Int) : Rat))) _ h87_1) ?_)
    rintro e w'' ⟨v', rfl, h', bb⟩
    exact ⟨_, rfl, h', bb, (fun h => absurd h (by decide))⟩
  · intro a' w' hF' hb hd
    have e82 : a'.tmps.getD 82 undef = .bool true := hd _ 82 (Array.mem_of_getElem? (i := 1) rfl) rfl rfl
    refine if_does (wanted_by rfl rfl e82 rfl) (Does.calls (r_call Tryz.func29 en29.1 en29.2 (map2 ev_c ev_c)) (rOf2_any (1) (2) _ (by decide) (by decide) (by decide) (by decide)) ?_)
    rintro e w'' ⟨v', rfl, h', bb⟩
    exact ⟨_, rfl, h', bb, (fun h => absurd h (by decide))⟩
  · intro a' w' hF' hb hd
    have e82 : a'.tmps.getD 82 undef = .bool true := hd _ 82 (Array.mem_of_getElem? (i := 3) rfl) rfl rfl
    obtain ⟨v88_0, e88, h88_1⟩ : ∃ v, a'.tmps.getD 88 undef = v ∧ Rq w' v (Rat.abs ((((Rat.floor ((((rawZ nega1 xa1 6 : Int) : Rat) / ((rawZ negb1 xb1 6 : Int) : Rat)) + ((1 : Int) : Rat) / ((2 : Int) : Rat)) : Int) : Rat)) - (((rawZ nega1 xa1 6 : Int) : Rat) / ((rawZ negb1 xb1 6 : Int) : Rat)))) := ⟨_, rfl, hd _ 88 (Array.mem_of_getElem? (i := 0) rfl) rfl rfl⟩
    obtain ⟨v89_0, e89, h89_1⟩ : ∃ v, a'.tmps.getD 89 undef = v ∧ Rq w' v (((1 : Int) : Rat) / ((2 : Int) : Rat)) := ⟨_, rfl, hd _ 89 (Array.mem_of_getElem? (i := 1) rfl) rfl rfl⟩
    refine if_does (wanted_by rfl rfl e82 rfl) (Does.calls (r_call Tryz.func22 en22.1 en22.2 (map2 e88 e89)) (rCmp_any _ _ (Rat.abs ((((Rat.floor ((((rawZ nega1 xa1 6 : Int) : Rat) / ((rawZ negb1 xb1 6 : Int) : Rat)) + ((1 : Int) : Rat) / ((2 : Int) : Rat)) : Int) : Rat)) - (((rawZ nega1 xa1 6 : Int) : Rat) / ((rawZ negb1 xb1 6 : Int) : Rat)))) (((1 : Int) : Rat) / ((2 : Int) : Rat)) (max (((6 + 4) + 1) + 6 + 1) 2) _ h88_1 h89_1 ((rlim_abs (rlim_sub (rlim_int (Lim.up (round_lim (own5_lim nega1 negb1 oka1 okb1 6 (by decide))) ((6 + 4) + 1) (by omega)) (by omega)) (own5_lim nega1 negb1 oka1 okb1 6 (by decide)))).up _ (by omega)) ((RLim.up (rlim_mk2 (limz_64 (by decide) (by decide)) (limz_64 (by decide) (by decide))) 2 (by decide)).up _ (by omega)) (by omega)) ?_)
    rintro e w'' ⟨rfl, bb⟩
    exact ⟨_, rfl, rfl, bb, (fun h => absurd h (by decide))⟩
  · intro a' w' hF' hb hd
    have e82 : a'.tmps.getD 82 undef = .bool true := hd _ 82 (Array.mem_of_getElem? (i := 1) rfl) rfl rfl
    have e90 : a'.tmps.getD 90 undef = .int .i64 (qc (Rat.abs ((((Rat.floor ((((rawZ nega1 xa1 6 : Int) : Rat) / ((rawZ negb1 xb1 6 : Int) : Rat)) + ((1 : Int) : Rat) / ((2 : Int) : Rat)) : Int) : Rat)) - (((rawZ nega1 xa1 6 : Int) : Rat) / ((rawZ negb1 xb1 6 : Int) : Rat)))) (((1 : Int) : Rat) / ((2 : Int) : Rat))) := hd _ 90 (Array.mem_of_getElem? (i := 0) rfl) rfl rfl
    exact if_does (wanted_by rfl rfl e82 rfl) (Does.vals (r_bin e90 ev_c eg_scalar (bi_int (ic_leq (c := true) (dec_tt (qc_le.2 (round_near _)))) (by simp))) ⟨rfl, Below.refl _ _, (fun h => absurd h (by decide))⟩)
  · intro a' w' hF' hb hd
    have e82 : a'.tmps.getD 82 undef = .bool true := hd _ 82 (Array.mem_of_getElem? (i := 0) rfl) rfl rfl
    have e91 : a'.tmps.getD 91 undef = .bool true := hd _ 91 (Array.mem_of_getElem? (i := 1) rfl) rfl rfl
    exact if_does (wanted_free rfl) (Does.vals (r_pick_t e82 e91) ⟨rfl, Below.refl _ _, (fun h => absurd h (by decide))⟩)
  intro a w31 hF bb hall hne
  have e92 : a.tmps.getD 92 undef = .bool true := hall 30 92 rfl
  clear hall hne
  replace bel := below_to bel bb
  clear bb
  replace hF := hF.add e92
  clear e92
  refine E.opset (L' := [(2, .bool true), (92, .bool true), (61, .bool false), (9, .bool (fit64 (Rat.floor (((rawZ nega1 xa1 6 : Int) : Rat) / ((rawZ negb1 xb1 6 : Int) : Rat))))), (8, .int .i64 (sm64 (Rat.floor (((rawZ nega1 xa1 6 : Int) : Rat) / ((rawZ negb1 xb1 6 : Int) : Rat))))), (29, .bool (fit64 (Rat.floor (((rawZ nega1 xa1 6 : Int) : Rat) / ((rawZ negb1 xb1 6 : Int) : Rat))))), (28, .int .i64 (sm64 (Rat.floor (((rawZ nega1 xa1 6 : Int) : Rat) / ((rawZ negb1 xb1 6 : Int) : Rat))))), (24, .tuple #[.int .i64 (sm64 (Rat.floor (((rawZ nega1 xa1 6 : Int) : Rat) / ((rawZ negb1 xb1 6 : Int) : Rat)))), .bool (fit64 (Rat.floor (((rawZ nega1 xa1 6 : Int) : Rat) / ((rawZ negb1 xb1 6 : Int) : Rat))))]), (27, .tuple #[.int .i64 (sm64 (Rat.floor (((rawZ nega1 xa1 6 : Int) : Rat) / ((rawZ negb1 xb1 6 : Int) : Rat)))), .bool (fit64 (Rat.floor (((rawZ nega1 xa1 6 : Int) : Rat) / ((rawZ negb1 xb1 6 : Int) : Rat))))]), (26, .agg #[.bool (decide (Rat.floor (((rawZ nega1 xa1 6 : Int) : Rat) / ((rawZ negb1 xb1 6 : Int) : Rat)) < 0)), .slice ad28 n28 c28]), (25, .agg #[.bool b8, .slice ad8 n8 c8, .slice ae8 m8 d8]), (7, .bool (fit64 (Rat.floor (((rawZ nega1 xa1 6 : Int) : Rat) / ((rawZ negb1 xb1 6 : Int) : Rat))))), (6, .int .i64 (sm64 (Rat.floor (((rawZ nega1 xa1 6 : Int) : Rat) / ((rawZ negb1 xb1 6 : Int) : Rat))))), (23, .bool (fit64 (Rat.floor (((rawZ nega1 xa1 6 : Int) : Rat) / ((rawZ negb1 xb1 6 : Int) : Rat))))), (22, .int .i64 (sm64 (Rat.floor (((rawZ nega1 xa1 6 : Int) : Rat) / ((rawZ negb1 xb1 6 : Int) : Rat))))), (19, .tuple #[.int .i64 (sm64 (Rat.floor (((rawZ nega1 xa1 6 : Int) : Rat) / ((rawZ negb1 xb1 6 : Int) : Rat)))), .bool (fit64 (Rat.floor (((rawZ nega1 xa1 6 : Int) : Rat) / ((rawZ negb1 xb1 6 : Int) : Rat))))]), (21, .tuple #[.int .i64 (sm64 (Rat.floor (((rawZ nega1 xa1 6 : Int) : Rat) / ((rawZ negb1 xb1 6 : Int) : Rat)))), .bool (fit64 (Rat.floor (((rawZ nega1 xa1 6 : Int) : Rat) / ((rawZ negb1 xb1 6 : Int) : Rat))))]), (20, .agg #[.bool b8, .slice ad8 n8 c8, .slice ae8 m8 d8]), (5, .pointer (some ⟨g5, 0, none⟩)), (18, .agg #[.bool b20, .slice ad20 n20 c20, .slice ae20 m20 d20]), (17, .agg #[.bool (decide (Rat.floor (((rawZ nega1 xa1 6 : Int) : Rat) / ((rawZ negb1 xb1 6 : Int) : Rat)) < 0)), .slice ad16 n16 c16]), (16, .agg #[.bool b8, .slice ad8 n8 c8, .slice ae8 m8 d8]), (4, .pointer (some ⟨g4, 0, none⟩)), (3, .pointer (some ⟨g3, 0, none⟩)), (15, .agg #[.bool b10, .slice ad10 n10 c10, .slice ae10 m10 d10]), (13, .agg #[.bool b8, .slice ad8 n8 c8, .slice ae8 m8 d8]), (11, .bool false), (10, .bool true), (1, .pointer (some ⟨g1, 0, none⟩)), (0, .agg #[.bool nega1, .slice aa1 na1 ca1, .bool negb1, .slice ab1 nb1 cb1])]) hF (r_assign (hF.at 0 rfl)) rfl rfl rfl rfl fun a hF => ?_
  refine E.nil ?_
  refine wp_ret ?_
  refine bodyPost_ret (res_tmp Tryz.results3 (hF.at 0 rfl)) hF.dfr ?_
  exact ⟨rfl, bel⟩

end Go.Proofs.YthoiocjbjfhgpaaGreat
