/- MeanOf. -/
import Derived.Test.YtmpdbkdijfpbbaaGreatRsB
import Derived.Test.YtmpdbkdijfpbbaaGreatMnB
import Derived.Test.YtmpdbkdijfpbbaaGreatGJ
import Derived.Test.YtmpdbkdijfpbbaaGreatSh
namespace Go.Proofs.YtmpdbkdijfpbbaaGreat
open Go.RowKit
set_option maxRecDepth 100000
set_option linter.unusedVariables false

set_option maxHeartbeats 8000000 in
theorem meanOf_walk (nega1 : Bool) (aa1 : Option Addr) (na1 ca1 : Nat) (xa1 : List Nat) (negb1 : Bool) (ab1 : Option Addr) (nb1 cb1 : Nat) (xb1 : List Nat) (nega2 : Bool) (aa2 : Option Addr) (na2 ca2 : Nat) (xa2 : List Nat) (negb2 : Bool) (ab2 : Option Addr) (nb2 cb2 : Nat) (xb2 : List Nat) (kk : Int) (w : World) (ia1 : InX w aa1 na1 ca1 xa1) (ib1 : InX w ab1 nb1 cb1 xb1) (ia2 : InX w aa2 na2 ca2 xa2) (ib2 : InX w ab2 nb2 cb2 xb2) :
    Calls Tryz.prog 3 #[.agg #[.bool nega1, .slice aa1 na1 ca1, .bool negb1, .slice ab1 nb1 cb1], .agg #[.bool nega2, .slice aa2 na2 ca2, .bool negb2, .slice ab2 nb2 cb2], .int .i64 kk] w (ValPost w (.bool true)) := by
  have oka1 := ia1.ok
  have okb1 := ib1.ok
  have oka2 := ia2.ok
  have okb2 := ib2.ok
  have bel : Below w.heap.size w w := Below.refl _ _
  refine E.enter (nt := 66) (L := [(0, .agg #[.bool nega1, .slice aa1 na1 ca1, .bool negb1, .slice ab1 nb1 cb1]), (1, .agg #[.bool nega2, .slice aa2 na2 ca2, .bool negb2, .slice ab2 nb2 cb2]), (2, .int .i64 kk)]) Tryz.func3 rfl rfl rfl (args_cons (i := 0) rfl (args_cons (i := 1) rfl (args_cons (i := 2) rfl args_nil))) ?_
  intro a hF
  refine wp_seq ?_
  refine E.seq ?_
  obtain ⟨g3, w1, ge3, hr, bb, o3⟩ := own_box (P := Tryz.prog) (w := w) (cs := [.bool nega1, .slice aa1 na1 ca1, .bool negb1, .slice ab1 nb1 cb1]) (v := .agg #[.bool nega1, .slice aa1 na1 ca1, .bool negb1, .slice ab1 nb1 cb1]) 26 rfl (niB (niS (niB (niS ni0))))
  replace ge3 : w.heap.size ≤ g3 := by rw [← ge3]; exact bel.size
  refine E.opv hF (r_box (hF.at 0 rfl) hr) rfl rfl rfl rfl fun a hF => ?_
  clear hr
  replace bel := below_to bel bb
  clear bb
  obtain ⟨g4, w2, ge4, hr, bb, o4⟩ := own_box (P := Tryz.prog) (w := w1) (cs := [.bool nega2, .slice aa2 na2 ca2, .bool negb2, .slice ab2 nb2 cb2]) (v := .agg #[.bool nega2, .slice aa2 na2 ca2, .bool negb2, .slice ab2 nb2 cb2]) 26 rfl (niB (niS (niB (niS ni0))))
  have ne3_4 : g3 ≠ g4 := by rw [← ge4]; exact o3.ne_new
  replace ge4 : w.heap.size ≤ g4 := by rw [← ge4]; exact bel.size
  refine E.opv hF (r_box (hF.at 2 rfl) hr) rfl rfl rfl rfl fun a hF => ?_
  clear hr
  replace o3 := o3.below bb
  replace bel := below_to bel bb
  clear bb
  refine E.opv hF (r_assign ev_c) rfl rfl rfl rfl fun a hF => ?_
  refine E.nil ?_
  refine wp_seq ?_
  refine wp_seq ?_
  refine E.seq ?_
  refine E.call hF (r_call Tryz.func4 en4.1 en4.2 map0) (awake11_any _) rfl rfl rfl rfl ?_
  rintro e w3 ⟨rfl, bb⟩
  refine ⟨_, rfl, ?_⟩
  intro a hF
  replace o3 := o3.below bb
  replace o4 := o4.below bb
  replace bel := below_to bel bb
  clear bb
  refine E.opv hF (r_un (hF.at 0 rfl) (bn_not _ false rfl)) rfl rfl rfl rfl fun a hF => ?_
  refine E.nil ?_
  refine wp_cond_false (hF.at 0 rfl) ?_
  refine wp_skip ?_
  refine E.norm ?_
  refine wp_seq ?_
  refine E.seq ?_
  refine E.opv hF (r_move (hF.at 7 rfl)) rfl rfl rfl rfl fun a hF => ?_
  refine E.opv hF (r_bin (hF.at 0 rfl) ev_c eg_scalar (id_and (n := 8) (by decide) (d := 256) (by decide) (by decide))) rfl rfl rfl rfl fun a hF => ?_
  refine E.opv hF (r_bin (hF.at 0 rfl) ev_c eg_scalar (id_remn (a := kk % 256) (b := 6) (by omega) (by omega))) rfl rfl rfl rfl fun a hF => ?_
  refine E.opset (L' := [(2, .int .i64 ((kk % 256) % 6)), (15, .int .i64 ((kk % 256) % 6)), (14, .int .i64 (kk % 256)), (13, .int .i64 kk), (12, .bool false), (11, .bool true), (6, .bool false), (4, .pointer (some ⟨g4, 0, none⟩)), (3, .pointer (some ⟨g3, 0, none⟩)), (0, .agg #[.bool nega1, .slice aa1 na1 ca1, .bool negb1, .slice ab1 nb1 cb1]), (1, .agg #[.bool nega2, .slice aa2 na2 ca2, .bool negb2, .slice ab2 nb2 cb2])]) hF (r_assign (hF.at 0 rfl)) rfl rfl rfl rfl fun a hF => ?_
  refine E.nil ?_
  refine wp_seq ?_
  refine E.drawn 6 mixed hF [16, 17, 18, 19, 7, 8] [(fun _ v => v = .agg #[.bool nega2, .slice aa2 na2 ca2, .bool negb2, .slice ab2 nb2 cb2]), (fun w v => Rq w v (((rawZ nega2 xa2 3 : Int) : Rat) / ((rawZ negb2 xb2 3 : Int) : Rat))), (fun _ v => v = .agg #[.bool nega2, .slice aa2 na2 ca2, .bool negb2, .slice ab2 nb2 cb2]), (fun w v => Rr w v (((rawZ nega2 xa2 3 : Int) : Rat) / ((rawZ negb2 xb2 3 : Int) : Rat)) (3)), (fun w v => ∃ g, v = .pointer (some ⟨g, 0, none⟩) ∧ w3.heap.size ≤ g ∧ Own w g [.bool false, .slice none 0 0, .slice none 0 0]), (fun w v => ∃ g, v = .pointer (some ⟨g, 0, none⟩) ∧ w3.heap.size ≤ g ∧ Own w g [.bool false, .slice none 0 0, .slice none 0 0])] [4, 5] (by decide +kernel) (by decide +kernel) rfl rfl rfl ⟨(Mb.eq _), (fun _ _ _ h hb => h.below hb), (Mb.eq _), (fun _ _ _ h hb => h.below hb), (fun _ _ _ ⟨g, e, l, o⟩ hb => ⟨g, e, l, o.below hb⟩), (fun _ _ _ ⟨g, e, l, o⟩ hb => ⟨g, e, l, o.below hb⟩), trivial⟩ ⟨fun _ _ ⟨g, e, _, o⟩ => ⟨g, e, o.lt⟩, ⟨fun _ _ ⟨g, e, _, o⟩ => ⟨g, e, o.lt⟩, trivial⟩⟩ ⟨?_, ?_, ?_, ?_, ?_, ?_, trivial⟩ ?_
  · intro a' w' hF' hb hd
    exact dv0 (r_load (hF'.at 7 rfl) (ld_Raw5 (vs := [.bool nega2, .slice aa2 na2 ca2, .bool negb2, .slice ab2 nb2 cb2]) (o4.below hb) rfl rfl)) rfl rfl rfl
  · intro a' w' hF' hb hd
    have e16 := sHe hd 0 16 rfl rfl rfl rfl
    exact dc0 (r_call Tryz.func5 en5.1 en5.2 (map2 e16 ev_c)) (Own5_any nega2 aa2 na2 ca2 xa2 negb2 ab2 nb2 cb2 xb2 3 _ (ia2.below (below_to bel hb)) (ib2.below (below_to bel hb)) (by omega)) rfl rfl
  · intro a' w' hF' hb hd
    exact dv0 (r_load (hF'.at 7 rfl) (ld_Raw5 (vs := [.bool nega2, .slice aa2 na2 ca2, .bool negb2, .slice ab2 nb2 cb2]) (o4.below hb) rfl rfl)) rfl rfl rfl
  · intro a' w' hF' hb hd
    have e18 := sHe hd 0 18 rfl rfl rfl rfl
    exact dc0 (r_call Tryz.func6 en6.1 en6.2 (map2 e18 ev_c)) (Told5_any nega2 aa2 na2 ca2 xa2 negb2 ab2 nb2 cb2 xb2 3 _ (ia2.below (below_to bel hb)) (ib2.below (below_to bel hb)) (by omega) (by omega)) rfl rfl
  · intro a' w' hF' hb hd
    obtain ⟨g, w2, ge, hr, bb, on⟩ := own_alloc (P := Tryz.prog) (w := w') (cs := [.bool false, .slice none 0 0, .slice none 0 0]) 32 ze_Rat rfl (niB (niS (niS ni0)))
    subst ge
    exact if_does (wanted_free rfl) (Does.vals (r_alloc hr) ⟨⟨_, rfl, hb.size, on⟩, bb, fun _ => rfl⟩)
  · intro a' w' hF' hb hd
    obtain ⟨g, w2, ge, hr, bb, on⟩ := own_alloc (P := Tryz.prog) (w := w') (cs := [.bool false, .slice none 0 0, .slice none 0 0]) 39 ze_RRat rfl (niB (niS (niS ni0)))
    subst ge
    exact if_does (wanted_free rfl) (Does.vals (r_alloc hr) ⟨⟨_, rfl, hb.size, on⟩, bb, fun _ => rfl⟩)
  intro a w4 hF bb hall hne
  obtain ⟨vv5, e17, hh6⟩ := sS hall 1 17 rfl rfl
  obtain ⟨vv7, e19, hh8⟩ := sS hall 3 19 rfl rfl
  obtain ⟨g7, e7, ge7, o7⟩ : ∃ g, a.tmps.getD 7 undef = .pointer (some ⟨g, 0, none⟩) ∧ w3.heap.size ≤ g ∧ Own w4 g [.bool false, .slice none 0 0, .slice none 0 0] := hall 4 7 rfl
  have ne3_7 : g3 ≠ g7 := Nat.ne_of_lt (Nat.lt_of_lt_of_le o3.lt ge7)
  obtain ⟨g8, e8, ge8, o8⟩ : ∃ g, a.tmps.getD 8 undef = .pointer (some ⟨g, 0, none⟩) ∧ w3.heap.size ≤ g ∧ Own w4 g [.bool false, .slice none 0 0, .slice none 0 0] := hall 5 8 rfl
  have ne3_8 : g3 ≠ g8 := Nat.ne_of_lt (Nat.lt_of_lt_of_le o3.lt ge8)
  have ne7_8 : g7 ≠ g8 := by intro e; exact hne 4 5 7 8 rfl rfl (by decide) rfl rfl (by rw [e7, e8, e])
  replace ge7 : w.heap.size ≤ g7 := Nat.le_trans bel.size ge7
  replace ge8 : w.heap.size ≤ g8 := Nat.le_trans bel.size ge8
  clear hall hne
  replace o3 := o3.below bb
  replace bel := below_to bel bb
  clear bb
  obtain ⟨b9, ad9, n9, c9, ae9, m9, d9, rfl, hn9, hd9⟩ := Rq.shape hh6
  have hf10 := Wc.abs hn9
  replace hF := hF.add e17
  clear e17
  obtain ⟨b11, ad11, n11, c11, ae11, m11, d11, z11, D11, rfl, hn11, hd11, hD11, hq11, lz11, lD11⟩ := Rr.shape hh8
  have ha11 := hn11.abs
  replace hF := hF.add e19
  clear e19
  replace hF := hF.add e7
  clear e7
  replace hF := hF.add e8
  clear e8
  obtain ⟨w12, hr, tu, on⟩ := st_Rat (vs := [.bool b9, .slice ad9 n9 c9, .slice ae9 m9 d9]) o7 rfl rfl (ocB (ocS (ocS oc0))) (niB (niS (niS ni0))) (o := 0) rfl
  have kp := tu.keep o7
  refine E.st hF (r_store (hF.at 1 rfl) (hF.at 3 rfl) (hr _ rfl)) rfl rfl fun a hF => ?_
  clear hr
  replace hh8 := hh8.keep kp
  replace hn11 := hn11.keep kp
  replace ha11 := ha11.keep kp
  replace hd11 := hd11.keep kp
  replace hh6 := hh6.keep kp
  replace hn9 := hn9.keep kp
  replace hf10 := hf10.keep kp
  replace hd9 := hd9.keep kp
  replace o3 := tu.own o3 ne3_7
  replace o8 := tu.own o8 (Ne.symm ne7_8)
  replace bel := tu.below bel ge7
  clear tu kp
  replace o7 := on
  clear on
  obtain ⟨w13, hr, tu, on⟩ := st_RRat (vs := [.bool b11, .slice ad11 n11 c11, .slice ae11 m11 d11]) o8 rfl rfl (ocB (ocS (ocS oc0))) (niB (niS (niS ni0))) (o := 0) rfl
  have kp := tu.keep o8
  refine E.st hF (r_store (hF.at 0 rfl) (hF.at 2 rfl) (hr _ rfl)) rfl rfl fun a hF => ?_
  clear hr
  replace hf10 := hf10.keep kp
  replace hd9 := hd9.keep kp
  replace hh6 := hh6.keep kp
  replace hn9 := hn9.keep kp
  replace hh8 := hh8.keep kp
  replace hn11 := hn11.keep kp
  replace ha11 := ha11.keep kp
  replace hd11 := hd11.keep kp
  replace o3 := tu.own o3 ne3_8
  replace o7 := tu.own o7 ne7_8
  replace bel := tu.below bel ge8
  clear tu kp
  replace o8 := on
  clear on
  refine E.nil ?_
  refine wp_seq ?_
  refine wp_seq ?_
  refine E.seq ?_
  refine E.opv hF (r_move (hF.at 4 rfl)) rfl rfl rfl rfl fun a hF => ?_
  by_cases hc14 : 0 < (kk % 256) % 6
  · refine E.opv hF (r_bin (hF.at 0 rfl) ev_c eg_scalar (bi_int (ic_gtr (c := true) (dec_tt hc14)) (by simp))) rfl rfl rfl rfl fun a hF => ?_
    refine E.nil ?_
    refine wp_cond_true (hF.at 0 rfl) ?_
    refine E.seq ?_
    refine E.opv hF (r_move (hF.at 6 rfl)) rfl rfl rfl rfl fun a hF => ?_
    refine E.call hF (r_call Tryz.func7 en7.1 en7.2 (map1 (hF.at 0 rfl))) (per11_any ((kk % 256) % 6) _) rfl rfl rfl rfl ?_
    rintro e w15 ⟨vv16, rfl, hh17, bb⟩
    refine ⟨_, rfl, ?_⟩
    intro a hF
    replace hf10 := hf10.below bb
    replace hd9 := hd9.below bb
    replace hh6 := hh6.below bb
    replace hn9 := hn9.below bb
    replace ha11 := ha11.below bb
    replace hd11 := hd11.below bb
    replace hh8 := hh8.below bb
    replace hn11 := hn11.below bb
    replace o3 := o3.below bb
    replace o7 := o7.below bb
    replace o8 := o8.below bb
    replace bel := below_to bel bb
    clear bb
    obtain ⟨b18, ad18, n18, c18, ae18, m18, d18, rfl, hn18, hd18⟩ := Rq.shape hh17
    have hf19 := Wc.abs hn18
    refine E.opv hF (r_move (hF.at 8 rfl)) rfl rfl rfl rfl fun a hF => ?_
    refine E.call hF (r_call Tryz.func8 en8.1 en8.2 (map1 (hF.at 0 rfl))) (rPer11_any ((kk % 256) % 6) _) rfl rfl rfl rfl ?_
    rintro e w20 ⟨vv21, rfl, hh22, bb⟩
    refine ⟨_, rfl, ?_⟩
    intro a hF
    replace hh17 := hh17.below bb
    replace hn18 := hn18.below bb
    replace hf19 := hf19.below bb
    replace hd18 := hd18.below bb
    replace hf10 := hf10.below bb
    replace hd9 := hd9.below bb
    replace hh6 := hh6.below bb
    replace hn9 := hn9.below bb
    replace ha11 := ha11.below bb
    replace hd11 := hd11.below bb
    replace hh8 := hh8.below bb
    replace hn11 := hn11.below bb
    replace o3 := o3.below bb
    replace o7 := o7.below bb
    replace o8 := o8.below bb
    replace bel := below_to bel bb
    clear bb
    obtain ⟨b23, ad23, n23, c23, ae23, m23, d23, z23, D23, rfl, hn23, hd23, hD23, hq23, lz23, lD23⟩ := Rr.shape hh22
    have ha23 := hn23.abs
    obtain ⟨w24, hr, tu, on⟩ := st_Rat (vs := [.bool b18, .slice ad18 n18 c18, .slice ae18 m18 d18]) o7 rfl rfl (ocB (ocS (ocS oc0))) (niB (niS (niS ni0))) (o := 0) rfl
    have kp := tu.keep o7
    refine E.st hF (r_store (hF.at 7 rfl) (hF.at 2 rfl) (hr _ rfl)) rfl rfl fun a hF => ?_
    clear hr
    replace hh22 := hh22.keep kp
    replace hn23 := hn23.keep kp
    replace ha23 := ha23.keep kp
    replace hd23 := hd23.keep kp
    replace hf10 := hf10.keep kp
    replace hd9 := hd9.keep kp
    replace hh6 := hh6.keep kp
    replace hn9 := hn9.keep kp
    replace ha11 := ha11.keep kp
    replace hd11 := hd11.keep kp
    replace hh8 := hh8.keep kp
    replace hn11 := hn11.keep kp
    replace hh17 := hh17.keep kp
    replace hn18 := hn18.keep kp
    replace hf19 := hf19.keep kp
    replace hd18 := hd18.keep kp
    replace o3 := tu.own o3 ne3_7
    replace o8 := tu.own o8 (Ne.symm ne7_8)
    replace bel := tu.below bel ge7
    clear tu kp
    replace o7 := on
    clear on
    obtain ⟨w25, hr, tu, on⟩ := st_RRat (vs := [.bool b23, .slice ad23 n23 c23, .slice ae23 m23 d23]) o8 rfl rfl (ocB (ocS (ocS oc0))) (niB (niS (niS ni0))) (o := 0) rfl
    have kp := tu.keep o8
    refine E.st hF (r_store (hF.at 6 rfl) (hF.at 0 rfl) (hr _ rfl)) rfl rfl fun a hF => ?_
    clear hr
    replace hf19 := hf19.keep kp
    replace hd18 := hd18.keep kp
    replace hh17 := hh17.keep kp
    replace hn18 := hn18.keep kp
    replace ha11 := ha11.keep kp
    replace hd11 := hd11.keep kp
    replace hh8 := hh8.keep kp
    replace hn11 := hn11.keep kp
    replace hh22 := hh22.keep kp
    replace hn23 := hn23.keep kp
    replace ha23 := ha23.keep kp
    replace hd23 := hd23.keep kp
    replace o3 := tu.own o3 ne3_8
    replace o7 := tu.own o7 ne7_8
    replace bel := tu.below bel ge8
    clear tu kp
    replace o8 := on
    clear on
    refine E.nil ?_
    refine wp_seq ?_
    refine E.drawn 6 mixed hF [26, 27, 28, 29, 9, 10] [(fun _ v => v = .agg #[.bool nega1, .slice aa1 na1 ca1, .bool negb1, .slice ab1 nb1 cb1]), (fun w v => Rq w v (((rawZ nega1 xa1 3 : Int) : Rat) / ((rawZ negb1 xb1 3 : Int) : Rat))), (fun _ v => v = .agg #[.bool nega1, .slice aa1 na1 ca1, .bool negb1, .slice ab1 nb1 cb1]), (fun w v => Rr w v (((rawZ nega1 xa1 3 : Int) : Rat) / ((rawZ negb1 xb1 3 : Int) : Rat)) (3)), (fun w v => ∃ g, v = .pointer (some ⟨g, 0, none⟩) ∧ w25.heap.size ≤ g ∧ Own w g [.bool false, .slice none 0 0, .slice none 0 0]), (fun w v => ∃ g, v = .pointer (some ⟨g, 0, none⟩) ∧ w25.heap.size ≤ g ∧ Own w g [.bool false, .slice none 0 0, .slice none 0 0])] [4, 5] (by decide +kernel) (by decide +kernel) rfl rfl rfl ⟨(Mb.eq _), (fun _ _ _ h hb => h.below hb), (Mb.eq _), (fun _ _ _ h hb => h.below hb), (fun _ _ _ ⟨g, e, l, o⟩ hb => ⟨g, e, l, o.below hb⟩), (fun _ _ _ ⟨g, e, l, o⟩ hb => ⟨g, e, l, o.below hb⟩), trivial⟩ ⟨fun _ _ ⟨g, e, _, o⟩ => ⟨g, e, o.lt⟩, ⟨fun _ _ ⟨g, e, _, o⟩ => ⟨g, e, o.lt⟩, trivial⟩⟩ ⟨?_, ?_, ?_, ?_, ?_, ?_, trivial⟩ ?_
    · intro a' w' hF' hb hd
      exact dv0 (r_load (hF'.at 18 rfl) (ld_Raw5 (vs := [.bool nega1, .slice aa1 na1 ca1, .bool negb1, .slice ab1 nb1 cb1]) (o3.below hb) rfl rfl)) rfl rfl rfl
    · intro a' w' hF' hb hd
      have e26 := sHe hd 0 26 rfl rfl rfl rfl
      exact dc0 (r_call Tryz.func5 en5.1 en5.2 (map2 e26 ev_c)) (Own5_any nega1 aa1 na1 ca1 xa1 negb1 ab1 nb1 cb1 xb1 3 _ (ia1.below (below_to bel hb)) (ib1.below (below_to bel hb)) (by omega)) rfl rfl
    · intro a' w' hF' hb hd
      exact dv0 (r_load (hF'.at 18 rfl) (ld_Raw5 (vs := [.bool nega1, .slice aa1 na1 ca1, .bool negb1, .slice ab1 nb1 cb1]) (o3.below hb) rfl rfl)) rfl rfl rfl
    · intro a' w' hF' hb hd
      have e28 := sHe hd 0 28 rfl rfl rfl rfl
      exact dc0 (r_call Tryz.func6 en6.1 en6.2 (map2 e28 ev_c)) (Told5_any nega1 aa1 na1 ca1 xa1 negb1 ab1 nb1 cb1 xb1 3 _ (ia1.below (below_to bel hb)) (ib1.below (below_to bel hb)) (by omega) (by omega)) rfl rfl
    · intro a' w' hF' hb hd
      obtain ⟨g, w2, ge, hr, bb, on⟩ := own_alloc (P := Tryz.prog) (w := w') (cs := [.bool false, .slice none 0 0, .slice none 0 0]) 32 ze_Rat rfl (niB (niS (niS ni0)))
      subst ge
      exact if_does (wanted_free rfl) (Does.vals (r_alloc hr) ⟨⟨_, rfl, hb.size, on⟩, bb, fun _ => rfl⟩)
    · intro a' w' hF' hb hd
      obtain ⟨g, w2, ge, hr, bb, on⟩ := own_alloc (P := Tryz.prog) (w := w') (cs := [.bool false, .slice none 0 0, .slice none 0 0]) 39 ze_RRat rfl (niB (niS (niS ni0)))
      subst ge
      exact if_does (wanted_free rfl) (Does.vals (r_alloc hr) ⟨⟨_, rfl, hb.size, on⟩, bb, fun _ => rfl⟩)
    intro a w26 hF bb hall hne
    obtain ⟨vv27, e27, hh28⟩ := sS hall 1 27 rfl rfl
    obtain ⟨vv29, e29, hh30⟩ := sS hall 3 29 rfl rfl
    obtain ⟨g9, e9, ge9, o9⟩ : ∃ g, a.tmps.getD 9 undef = .pointer (some ⟨g, 0, none⟩) ∧ w25.heap.size ≤ g ∧ Own w26 g [.bool false, .slice none 0 0, .slice none 0 0] := hall 4 9 rfl
    have ne7_9 : g7 ≠ g9 := Nat.ne_of_lt (Nat.lt_of_lt_of_le o7.lt ge9)
    have ne8_9 : g8 ≠ g9 := Nat.ne_of_lt (Nat.lt_of_lt_of_le o8.lt ge9)
    obtain ⟨g10, e10, ge10, o10⟩ : ∃ g, a.tmps.getD 10 undef = .pointer (some ⟨g, 0, none⟩) ∧ w25.heap.size ≤ g ∧ Own w26 g [.bool false, .slice none 0 0, .slice none 0 0] := hall 5 10 rfl
    have ne7_10 : g7 ≠ g10 := Nat.ne_of_lt (Nat.lt_of_lt_of_le o7.lt ge10)
    have ne8_10 : g8 ≠ g10 := Nat.ne_of_lt (Nat.lt_of_lt_of_le o8.lt ge10)
    have ne9_10 : g9 ≠ g10 := by intro e; exact hne 4 5 9 10 rfl rfl (by decide) rfl rfl (by rw [e9, e10, e])
    replace ge9 : w.heap.size ≤ g9 := Nat.le_trans bel.size ge9
    replace ge10 : w.heap.size ≤ g10 := Nat.le_trans bel.size ge10
    clear hall hne
    replace hf19 := hf19.below bb
    replace hd18 := hd18.below bb
    replace hh17 := hh17.below bb
    replace hn18 := hn18.below bb
    replace ha23 := ha23.below bb
    replace hd23 := hd23.below bb
    replace hh22 := hh22.below bb
    replace hn23 := hn23.below bb
    replace o7 := o7.below bb
    replace o8 := o8.below bb
    replace bel := below_to bel bb
    clear bb
    obtain ⟨b31, ad31, n31, c31, ae31, m31, d31, rfl, hn31, hd31⟩ := Rq.shape hh28
    have hf32 := Wc.abs hn31
    replace hF := hF.add e27
    clear e27
    obtain ⟨b33, ad33, n33, c33, ae33, m33, d33, z33, D33, rfl, hn33, hd33, hD33, hq33, lz33, lD33⟩ := Rr.shape hh30
    have ha33 := hn33.abs
    replace hF := hF.add e29
    clear e29
    replace hF := hF.add e9
    clear e9
    replace hF := hF.add e10
    clear e10
    obtain ⟨w34, hr, tu, on⟩ := st_Rat (vs := [.bool b31, .slice ad31 n31 c31, .slice ae31 m31 d31]) o9 rfl rfl (ocB (ocS (ocS oc0))) (niB (niS (niS ni0))) (o := 0) rfl
    have kp := tu.keep o9
    refine E.st hF (r_store (hF.at 1 rfl) (hF.at 3 rfl) (hr _ rfl)) rfl rfl fun a hF => ?_
    clear hr
    replace hh30 := hh30.keep kp
    replace hn33 := hn33.keep kp
    replace ha33 := ha33.keep kp
    replace hd33 := hd33.keep kp
    replace hf19 := hf19.keep kp
    replace hd18 := hd18.keep kp
    replace hh17 := hh17.keep kp
    replace hn18 := hn18.keep kp
    replace ha23 := ha23.keep kp
    replace hd23 := hd23.keep kp
    replace hh22 := hh22.keep kp
    replace hn23 := hn23.keep kp
    replace hh28 := hh28.keep kp
    replace hn31 := hn31.keep kp
    replace hf32 := hf32.keep kp
    replace hd31 := hd31.keep kp
    replace o7 := tu.own o7 ne7_9
    replace o8 := tu.own o8 ne8_9
    replace o10 := tu.own o10 (Ne.symm ne9_10)
    replace bel := tu.below bel ge9
    clear tu kp
    replace o9 := on
    clear on
    obtain ⟨w35, hr, tu, on⟩ := st_RRat (vs := [.bool b33, .slice ad33 n33 c33, .slice ae33 m33 d33]) o10 rfl rfl (ocB (ocS (ocS oc0))) (niB (niS (niS ni0))) (o := 0) rfl
    have kp := tu.keep o10
    refine E.st hF (r_store (hF.at 0 rfl) (hF.at 2 rfl) (hr _ rfl)) rfl rfl fun a hF => ?_
    clear hr
    replace hf19 := hf19.keep kp
    replace hd18 := hd18.keep kp
    replace hh17 := hh17.keep kp
    replace hn18 := hn18.keep kp
    replace ha23 := ha23.keep kp
    replace hd23 := hd23.keep kp
    replace hh22 := hh22.keep kp
    replace hn23 := hn23.keep kp
    replace hf32 := hf32.keep kp
    replace hd31 := hd31.keep kp
    replace hh28 := hh28.keep kp
    replace hn31 := hn31.keep kp
    replace hh30 := hh30.keep kp
    replace hn33 := hn33.keep kp
    replace ha33 := ha33.keep kp
    replace hd33 := hd33.keep kp
    replace o7 := tu.own o7 ne7_10
    replace o8 := tu.own o8 ne8_10
    replace o9 := tu.own o9 ne9_10
    replace bel := tu.below bel ge10
    clear tu kp
    replace o10 := on
    clear on
    refine E.nil ?_
    refine wp_seq ?_
    refine E.drawn 36 mixed hF [30, 31, 32, 33, 34, 35, 36, 37, 38, 39, 40, 41, 42, 43, 44, 45, 46, 47, 48, 49, 50, 51, 52, 53, 54, 55, 56, 57, 58, 59, 60, 61, 62, 63, 64, 65] [(fun _ v => v = .agg #[.bool b18, .slice ad18 n18 c18, .slice ae18 m18 d18]), (fun _ v => v = .agg #[.bool b23, .slice ad23 n23 c23, .slice ae23 m23 d23]), (fun _ v => v = .int .i64 0), (fun _ v => v = .bool true), (fun _ v => v = .bool true), (fun w v => Rq w v (cre)), (fun w v => Rr w v (cre) (12)), (fun _ v => v = .int .i64 0), (fun _ v => v = .bool true), (fun _ v => v = .bool true), (fun _ v => v = .bool true), (fun _ v => v = .agg #[.bool b31, .slice ad31 n31 c31, .slice ae31 m31 d31]), (fun _ v => v = .agg #[.bool b18, .slice ad18 n18 c18, .slice ae18 m18 d18]), (fun w v => Rq w v (mof (((rawZ nega1 xa1 3 : Int) : Rat) / ((rawZ negb1 xb1 3 : Int) : Rat)) (per ((kk % 256) % 6)))), (fun _ v => v = .agg #[.bool b33, .slice ad33 n33 c33, .slice ae33 m33 d33]), (fun _ v => v = .agg #[.bool b23, .slice ad23 n23 c23, .slice ae23 m23 d23]), (fun w v => Rr w v (mof (((rawZ nega1 xa1 3 : Int) : Rat) / ((rawZ negb1 xb1 3 : Int) : Rat)) (per ((kk % 256) % 6))) ((3 + 7 + 3 + 2 + 30))), (fun _ v => v = .int .i64 0), (fun _ v => v = .bool true), (fun _ v => v = .bool true), (fun _ v => v = .bool true), (fun _ v => v = .agg #[.bool b31, .slice ad31 n31 c31, .slice ae31 m31 d31]), (fun w v => Rq w v (mof (((rawZ nega1 xa1 3 : Int) : Rat) / ((rawZ negb1 xb1 3 : Int) : Rat)) pyr)), (fun _ v => v = .agg #[.bool b31, .slice ad31 n31 c31, .slice ae31 m31 d31]), (fun w v => Rq w v (pyr)), (fun w v => Rq w v (mof (((rawZ nega1 xa1 3 : Int) : Rat) / ((rawZ negb1 xb1 3 : Int) : Rat)) (pyr))), (fun _ v => v = .bool true), (fun _ v => v = .bool true), (fun _ v => v = .bool true), (fun _ v => v = .agg #[.bool b31, .slice ad31 n31 c31, .slice ae31 m31 d31]), (fun w v => Rq w v (mof (((rawZ nega1 xa1 3 : Int) : Rat) / ((rawZ negb1 xb1 3 : Int) : Rat)) pmo)), (fun _ v => v = .agg #[.bool b31, .slice ad31 n31 c31, .slice ae31 m31 d31]), (fun w v => Rq w v (pmo)), (fun w v => Rq w v (mof (((rawZ nega1 xa1 3 : Int) : Rat) / ((rawZ negb1 xb1 3 : Int) : Rat)) (pmo))), (fun _ v => v = .bool true), (fun _ v => v = .bool true)] [] (by decide +kernel) (by decide +kernel) rfl rfl rfl ⟨(Mb.eq _), (Mb.eq _), (Mb.eq _), (Mb.eq _), (Mb.eq _), (fun _ _ _ h hb => h.below hb), (fun _ _ _ h hb => h.below hb), (Mb.eq _), (Mb.eq _), (Mb.eq _), (Mb.eq _), (Mb.eq _), (Mb.eq _), (fun _ _ _ h hb => h.below hb), (Mb.eq _), (Mb.eq _), (fun _ _ _ h hb => h.below hb), (Mb.eq _), (Mb.eq _), (Mb.eq _), (Mb.eq _), (Mb.eq _), (fun _ _ _ h hb => h.below hb), (Mb.eq _), (fun _ _ _ h hb => h.below hb), (fun _ _ _ h hb => h.below hb), (Mb.eq _), (Mb.eq _), (Mb.eq _), (Mb.eq _), (fun _ _ _ h hb => h.below hb), (Mb.eq _), (fun _ _ _ h hb => h.below hb), (fun _ _ _ h hb => h.below hb), (Mb.eq _), (Mb.eq _), trivial⟩ trivial ⟨?_, ?_, ?_, ?_, ?_, ?_, ?_, ?_, ?_, ?_, ?_, ?_, ?_, ?_, ?_, ?_, ?_, ?_, ?_, ?_, ?_, ?_, ?_, ?_, ?_, ?_, ?_, ?_, ?_, ?_, ?_, ?_, ?_, ?_, ?_, ?_, trivial⟩ ?_
    · intro a' w' hF' hb hd
      exact dv0 (r_load (hF'.at 11 rfl) (ld_Rat (vs := [.bool b18, .slice ad18 n18 c18, .slice ae18 m18 d18]) (o7.below hb) rfl rfl)) rfl rfl rfl
    · intro a' w' hF' hb hd
      exact dv0 (r_load (hF'.at 10 rfl) (ld_RRat (vs := [.bool b23, .slice ad23 n23 c23, .slice ae23 m23 d23]) (o8.below hb) rfl rfl)) rfl rfl rfl
    · intro a' w' hF' hb hd
      have e30 := sHe hd 0 30 rfl rfl rfl rfl
      have e31 := sHe hd 1 31 rfl rfl rfl rfl
      exact dcx0 (r_call Tryz.func9 en9.1 en9.2 (map2 e30 e31)) (Is5_any _ _ _ _ 2 7 _ (hh17.below hb) (hh22.below hb) (per_lim ((kk % 256) % 6)) rfl (by omega) (by omega)) (fun _ => rfl) rfl rfl
    · intro a' w' hF' hb hd
      have e32 := sHe hd 0 32 rfl rfl rfl rfl
      exact dv0 (r_bin e32 ev_c eg_scalar (bi_int (ic_eql (c := true) (by decide)) (by simp))) rfl rfl rfl
    · intro a' w' hF' hb hd
      have e33 := sHe hd 0 33 rfl rfl rfl rfl
      exact dv0 (r_move e33) rfl rfl rfl
    · intro a' w' hF' hb hd
      have e34 := sHe hd 0 34 rfl rfl rfl rfl
      exact dc1 (wanted_by rfl rfl e34 rfl) (r_call Tryz.func10 en10.1 en10.2 map0) (mCreation_any _) rfl
    · intro a' w' hF' hb hd
      have e34 := sHe hd 1 34 rfl rfl rfl rfl
      exact dc1 (wanted_by rfl rfl e34 rfl) (r_call Tryz.func11 en11.1 en11.2 map0) (rCreation11_any _) rfl
    · intro a' w' hF' hb hd
      have e34 := sHe hd 3 34 rfl rfl rfl rfl
      obtain ⟨v35_0, e35, h35_1⟩ := sH hd 0 35 rfl rfl rfl rfl
      obtain ⟨v36_0, e36, h36_1⟩ := sH hd 1 36 rfl rfl rfl rfl
      exact dcx1 (wanted_by rfl rfl e34 rfl) (r_call Tryz.func9 en9.1 en9.2 (map2 e35 e36)) (Is5_any _ _ (cre) (cre) 2 12 _ h35_1 h36_1 cre_lim rfl (by omega) (by omega)) (fun _ => rfl) rfl
    · intro a' w' hF' hb hd
      have e34 := sHe hd 1 34 rfl rfl rfl rfl
      have e37 := sHe hd 0 37 rfl rfl rfl rfl
      exact dv1 (wanted_by rfl rfl e34 rfl) (r_bin e37 ev_c eg_scalar (bi_int (ic_eql (c := true) (by decide)) (by simp))) rfl rfl
    · intro a' w' hF' hb hd
      have e34 := sHe hd 0 34 rfl rfl rfl rfl
      have e38 := sHe hd 1 38 rfl rfl rfl rfl
      exact dv0 (r_pick_t e34 e38) rfl rfl rfl
    · intro a' w' hF' hb hd
      have e39 := sHe hd 0 39 rfl rfl rfl rfl
      exact dv0 (r_move e39) rfl rfl rfl
    · intro a' w' hF' hb hd
      have e40 := sHe hd 0 40 rfl rfl rfl rfl
      exact dv1 (wanted_by rfl rfl e40 rfl) (r_load (hF'.at 1 rfl) (ld_Rat (vs := [.bool b31, .slice ad31 n31 c31, .slice ae31 m31 d31]) (o9.below hb) rfl rfl)) rfl rfl
    · intro a' w' hF' hb hd
      have e40 := sHe hd 0 40 rfl rfl rfl rfl
      exact dv1 (wanted_by rfl rfl e40 rfl) (r_load (hF'.at 11 rfl) (ld_Rat (vs := [.bool b18, .slice ad18 n18 c18, .slice ae18 m18 d18]) (o7.below hb) rfl rfl)) rfl rfl
    · intro a' w' hF' hb hd
      have e40 := sHe hd 2 40 rfl rfl rfl rfl
      have e41 := sHe hd 0 41 rfl rfl rfl rfl
      have e42 := sHe hd 1 42 rfl rfl rfl rfl
      exact dc1 (wanted_by rfl rfl e40 rfl) (r_call Tryz.func12 en12.1 en12.2 (map2 e41 e42)) (mOf_any _ _ _ _ 3 2 _ (hh28.below hb) (hh17.below hb) (own5_lim nega1 negb1 oka1 okb1 3 (by decide)) (per_lim ((kk % 256) % 6)) (by omega) (by omega)) rfl
    · intro a' w' hF' hb hd
      have e40 := sHe hd 0 40 rfl rfl rfl rfl
      exact dv1 (wanted_by rfl rfl e40 rfl) (r_load (hF'.at 0 rfl) (ld_RRat (vs := [.bool b33, .slice ad33 n33 c33, .slice ae33 m33 d33]) (o10.below hb) rfl rfl)) rfl rfl
    · intro a' w' hF' hb hd
      have e40 := sHe hd 0 40 rfl rfl rfl rfl
      exact dv1 (wanted_by rfl rfl e40 rfl) (r_load (hF'.at 10 rfl) (ld_RRat (vs := [.bool b23, .slice ad23 n23 c23, .slice ae23 m23 d23]) (o8.below hb) rfl rfl)) rfl rfl
    · intro a' w' hF' hb hd
      have e40 := sHe hd 3 40 rfl rfl rfl rfl
      have e44 := sHe hd 0 44 rfl rfl rfl rfl
      have e45 := sHe hd 1 45 rfl rfl rfl rfl
      exact dc1 (wanted_by rfl rfl e40 rfl) (r_call Tryz.func13 en13.1 en13.2 (map2 e44 e45)) (rMof_any _ _ _ _ 3 7 3 2 _ (hh30.below hb) (hh22.below hb) (own5_lim nega1 negb1 oka1 okb1 3 (by decide)) (per_lim ((kk % 256) % 6)) (by omega) (by omega) (by omega) (by omega) (by omega) (by omega)) rfl
    · intro a' w' hF' hb hd
      have e40 := sHe hd 3 40 rfl rfl rfl rfl
      obtain ⟨v43_0, e43, h43_1⟩ := sH hd 0 43 rfl rfl rfl rfl
      obtain ⟨v46_0, e46, h46_1⟩ := sH hd 1 46 rfl rfl rfl rfl
      exact dcx1 (wanted_by rfl rfl e40 rfl) (r_call Tryz.func9 en9.1 en9.2 (map2 e43 e46)) (Is5_any _ _ _ _ (3 + 2 + 5) (3 + 7 + 3 + 2 + 30) _ h43_1 h46_1 (mof_lim (own5_lim nega1 negb1 oka1 okb1 3 (by decide)) (per_lim ((kk % 256) % 6))) rfl (by omega) (by omega)) (fun _ => rfl) rfl
    · intro a' w' hF' hb hd
      have e40 := sHe hd 1 40 rfl rfl rfl rfl
      have e47 := sHe hd 0 47 rfl rfl rfl rfl
      exact dv1 (wanted_by rfl rfl e40 rfl) (r_bin e47 ev_c eg_scalar (bi_int (ic_eql (c := true) (by decide)) (by simp))) rfl rfl
    · intro a' w' hF' hb hd
      have e40 := sHe hd 0 40 rfl rfl rfl rfl
      have e48 := sHe hd 1 48 rfl rfl rfl rfl
      exact dv0 (r_pick_t e40 e48) rfl rfl rfl
    · intro a' w' hF' hb hd
      have e49 := sHe hd 0 49 rfl rfl rfl rfl
      exact dv0 (r_move e49) rfl rfl rfl
    · intro a' w' hF' hb hd
      have e50 := sHe hd 0 50 rfl rfl rfl rfl
      exact dv1 (wanted_by rfl rfl e50 rfl) (r_load (hF'.at 1 rfl) (ld_Rat (vs := [.bool b31, .slice ad31 n31 c31, .slice ae31 m31 d31]) (o9.below hb) rfl rfl)) rfl rfl
    · intro a' w' hF' hb hd
      have e50 := sHe hd 1 50 rfl rfl rfl rfl
      have e51 := sHe hd 0 51 rfl rfl rfl rfl
      exact dc1 (wanted_by rfl rfl e50 rfl) (r_call Tryz.func14 en14.1 en14.2 (map1 e51)) (mSun_any _ _ 3 _ (hh28.below hb) (own5_lim nega1 negb1 oka1 okb1 3 (by decide)) (by omega)) rfl
    · intro a' w' hF' hb hd
      have e50 := sHe hd 0 50 rfl rfl rfl rfl
      exact dv1 (wanted_by rfl rfl e50 rfl) (r_load (hF'.at 1 rfl) (ld_Rat (vs := [.bool b31, .slice ad31 n31 c31, .slice ae31 m31 d31]) (o9.below hb) rfl rfl)) rfl rfl
    · intro a' w' hF' hb hd
      have e50 := sHe hd 1 50 rfl rfl rfl rfl
      exact dc1 (wanted_by rfl rfl e50 rfl) (r_call Tryz.func16 en16.1 en16.2 map0) (mYear_any _) rfl
    · intro a' w' hF' hb hd
      have e50 := sHe hd 3 50 rfl rfl rfl rfl
      have e53 := sHe hd 0 53 rfl rfl rfl rfl
      obtain ⟨v54_0, e54, h54_1⟩ := sH hd 1 54 rfl rfl rfl rfl
      exact dc1 (wanted_by rfl rfl e50 rfl) (r_call Tryz.func12 en12.1 en12.2 (map2 e53 e54)) (mOf_any _ _ _ (pyr) 3 2 _ (hh28.below hb) h54_1 (own5_lim nega1 negb1 oka1 okb1 3 (by decide)) pyr_lim (by omega) (by omega)) rfl
    · intro a' w' hF' hb hd
      have e50 := sHe hd 3 50 rfl rfl rfl rfl
      obtain ⟨v52_0, e52, h52_1⟩ := sH hd 0 52 rfl rfl rfl rfl
      obtain ⟨v55_0, e55, h55_1⟩ := sH hd 1 55 rfl rfl rfl rfl
      exact dcx1 (wanted_by rfl rfl e50 rfl) (r_call Tryz.func15 en15.1 en15.2 (map2 e52 e55)) (rSame_true _ _ _ _ _ h52_1 h55_1 rfl) (fun _ => rfl) rfl
    · intro a' w' hF' hb hd
      have e50 := sHe hd 0 50 rfl rfl rfl rfl
      have e56 := sHe hd 1 56 rfl rfl rfl rfl
      exact dv0 (r_pick_t e50 e56) rfl rfl rfl
    · intro a' w' hF' hb hd
      have e57 := sHe hd 0 57 rfl rfl rfl rfl
      exact dv0 (r_move e57) rfl rfl rfl
    · intro a' w' hF' hb hd
      have e58 := sHe hd 0 58 rfl rfl rfl rfl
      exact dv1 (wanted_by rfl rfl e58 rfl) (r_load (hF'.at 1 rfl) (ld_Rat (vs := [.bool b31, .slice ad31 n31 c31, .slice ae31 m31 d31]) (o9.below hb) rfl rfl)) rfl rfl
    · intro a' w' hF' hb hd
      have e58 := sHe hd 1 58 rfl rfl rfl rfl
      have e59 := sHe hd 0 59 rfl rfl rfl rfl
      exact dc1 (wanted_by rfl rfl e58 rfl) (r_call Tryz.func17 en17.1 en17.2 (map1 e59)) (mMoon_any _ _ 3 _ (hh28.below hb) (own5_lim nega1 negb1 oka1 okb1 3 (by decide)) (by omega)) rfl
    · intro a' w' hF' hb hd
      have e58 := sHe hd 0 58 rfl rfl rfl rfl
      exact dv1 (wanted_by rfl rfl e58 rfl) (r_load (hF'.at 1 rfl) (ld_Rat (vs := [.bool b31, .slice ad31 n31 c31, .slice ae31 m31 d31]) (o9.below hb) rfl rfl)) rfl rfl
    · intro a' w' hF' hb hd
      have e58 := sHe hd 1 58 rfl rfl rfl rfl
      exact dc1 (wanted_by rfl rfl e58 rfl) (r_call Tryz.func18 en18.1 en18.2 map0) (mMonth_any _) rfl
    · intro a' w' hF' hb hd
      have e58 := sHe hd 3 58 rfl rfl rfl rfl
      have e61 := sHe hd 0 61 rfl rfl rfl rfl
      obtain ⟨v62_0, e62, h62_1⟩ := sH hd 1 62 rfl rfl rfl rfl
      exact dc1 (wanted_by rfl rfl e58 rfl) (r_call Tryz.func12 en12.1 en12.2 (map2 e61 e62)) (mOf_any _ _ _ (pmo) 3 2 _ (hh28.below hb) h62_1 (own5_lim nega1 negb1 oka1 okb1 3 (by decide)) pmo_lim (by omega) (by omega)) rfl
    · intro a' w' hF' hb hd
      have e58 := sHe hd 3 58 rfl rfl rfl rfl
      obtain ⟨v60_0, e60, h60_1⟩ := sH hd 0 60 rfl rfl rfl rfl
      obtain ⟨v63_0, e63, h63_1⟩ := sH hd 1 63 rfl rfl rfl rfl
      exact dcx1 (wanted_by rfl rfl e58 rfl) (r_call Tryz.func15 en15.1 en15.2 (map2 e60 e63)) (rSame_true _ _ _ _ _ h60_1 h63_1 rfl) (fun _ => rfl) rfl
    · intro a' w' hF' hb hd
      have e58 := sHe hd 0 58 rfl rfl rfl rfl
      have e64 := sHe hd 1 64 rfl rfl rfl rfl
      exact dv0 (r_pick_t e58 e64) rfl rfl rfl
    intro a w36 hF bb hall hne
    have e65 := sSe hall 35 65 rfl rfl
    clear hall hne
    replace bel := below_to bel bb
    clear bb
    replace hF := hF.add e65
    clear e65
    refine E.opset (L' := [(6, .bool true), (65, .bool true), (10, .pointer (some ⟨g10, 0, none⟩)), (9, .pointer (some ⟨g9, 0, none⟩)), (29, .agg #[.bool b33, .slice ad33 n33 c33, .slice ae33 m33 d33]), (27, .agg #[.bool b31, .slice ad31 n31 c31, .slice ae31 m31 d31]), (25, .agg #[.bool b23, .slice ad23 n23 c23, .slice ae23 m23 d23]), (24, .int .i64 ((kk % 256) % 6)), (23, .agg #[.bool b18, .slice ad18 n18 c18, .slice ae18 m18 d18]), (22, .int .i64 ((kk % 256) % 6)), (21, .bool true), (20, .int .i64 ((kk % 256) % 6)), (8, .pointer (some ⟨g8, 0, none⟩)), (7, .pointer (some ⟨g7, 0, none⟩)), (19, .agg #[.bool b11, .slice ad11 n11 c11, .slice ae11 m11 d11]), (17, .agg #[.bool b9, .slice ad9 n9 c9, .slice ae9 m9 d9]), (2, .int .i64 ((kk % 256) % 6)), (15, .int .i64 ((kk % 256) % 6)), (14, .int .i64 (kk % 256)), (13, .int .i64 kk), (12, .bool false), (11, .bool true), (4, .pointer (some ⟨g4, 0, none⟩)), (3, .pointer (some ⟨g3, 0, none⟩)), (0, .agg #[.bool nega1, .slice aa1 na1 ca1, .bool negb1, .slice ab1 nb1 cb1]), (1, .agg #[.bool nega2, .slice aa2 na2 ca2, .bool negb2, .slice ab2 nb2 cb2])]) hF (r_assign (hF.at 0 rfl)) rfl rfl rfl rfl fun a hF => ?_
    refine E.nil ?_
    refine wp_ret ?_
    refine bodyPost_ret (res_tmp Tryz.results3 (hF.at 0 rfl)) hF.dfr ?_
    exact ⟨rfl, bel⟩
  · refine E.opv hF (r_bin (hF.at 0 rfl) ev_c eg_scalar (bi_int (ic_gtr (c := false) (dec_ff hc14)) (by simp))) rfl rfl rfl rfl fun a hF => ?_
    refine E.nil ?_
    refine wp_cond_false (hF.at 0 rfl) ?_
    refine wp_skip ?_
    refine E.norm ?_
    refine wp_seq ?_
    refine E.drawn 6 mixed hF [26, 27, 28, 29, 9, 10] [(fun _ v => v = .agg #[.bool nega1, .slice aa1 na1 ca1, .bool negb1, .slice ab1 nb1 cb1]), (fun w v => Rq w v (((rawZ nega1 xa1 3 : Int) : Rat) / ((rawZ negb1 xb1 3 : Int) : Rat))), (fun _ v => v = .agg #[.bool nega1, .slice aa1 na1 ca1, .bool negb1, .slice ab1 nb1 cb1]), (fun w v => Rr w v (((rawZ nega1 xa1 3 : Int) : Rat) / ((rawZ negb1 xb1 3 : Int) : Rat)) (3)), (fun w v => ∃ g, v = .pointer (some ⟨g, 0, none⟩) ∧ w13.heap.size ≤ g ∧ Own w g [.bool false, .slice none 0 0, .slice none 0 0]), (fun w v => ∃ g, v = .pointer (some ⟨g, 0, none⟩) ∧ w13.heap.size ≤ g ∧ Own w g [.bool false, .slice none 0 0, .slice none 0 0])] [4, 5] (by decide +kernel) (by decide +kernel) rfl rfl rfl ⟨(Mb.eq _), (fun _ _ _ h hb => h.below hb), (Mb.eq _), (fun _ _ _ h hb => h.below hb), (fun _ _ _ ⟨g, e, l, o⟩ hb => ⟨g, e, l, o.below hb⟩), (fun _ _ _ ⟨g, e, l, o⟩ hb => ⟨g, e, l, o.below hb⟩), trivial⟩ ⟨fun _ _ ⟨g, e, _, o⟩ => ⟨g, e, o.lt⟩, ⟨fun _ _ ⟨g, e, _, o⟩ => ⟨g, e, o.lt⟩, trivial⟩⟩ ⟨?_, ?_, ?_, ?_, ?_, ?_, trivial⟩ ?_
    · intro a' w' hF' hb hd
      exact dv0 (r_load (hF'.at 14 rfl) (ld_Raw5 (vs := [.bool nega1, .slice aa1 na1 ca1, .bool negb1, .slice ab1 nb1 cb1]) (o3.below hb) rfl rfl)) rfl rfl rfl
    · intro a' w' hF' hb hd
      have e26 := sHe hd 0 26 rfl rfl rfl rfl
      exact dc0 (r_call Tryz.func5 en5.1 en5.2 (map2 e26 ev_c)) (Own5_any nega1 aa1 na1 ca1 xa1 negb1 ab1 nb1 cb1 xb1 3 _ (ia1.below (below_to bel hb)) (ib1.below (below_to bel hb)) (by omega)) rfl rfl
    · intro a' w' hF' hb hd
      exact dv0 (r_load (hF'.at 14 rfl) (ld_Raw5 (vs := [.bool nega1, .slice aa1 na1 ca1, .bool negb1, .slice ab1 nb1 cb1]) (o3.below hb) rfl rfl)) rfl rfl rfl
    · intro a' w' hF' hb hd
      have e28 := sHe hd 0 28 rfl rfl rfl rfl
      exact dc0 (r_call Tryz.func6 en6.1 en6.2 (map2 e28 ev_c)) (Told5_any nega1 aa1 na1 ca1 xa1 negb1 ab1 nb1 cb1 xb1 3 _ (ia1.below (below_to bel hb)) (ib1.below (below_to bel hb)) (by omega) (by omega)) rfl rfl
    · intro a' w' hF' hb hd
      obtain ⟨g, w2, ge, hr, bb, on⟩ := own_alloc (P := Tryz.prog) (w := w') (cs := [.bool false, .slice none 0 0, .slice none 0 0]) 32 ze_Rat rfl (niB (niS (niS ni0)))
      subst ge
      exact if_does (wanted_free rfl) (Does.vals (r_alloc hr) ⟨⟨_, rfl, hb.size, on⟩, bb, fun _ => rfl⟩)
    · intro a' w' hF' hb hd
      obtain ⟨g, w2, ge, hr, bb, on⟩ := own_alloc (P := Tryz.prog) (w := w') (cs := [.bool false, .slice none 0 0, .slice none 0 0]) 39 ze_RRat rfl (niB (niS (niS ni0)))
      subst ge
      exact if_does (wanted_free rfl) (Does.vals (r_alloc hr) ⟨⟨_, rfl, hb.size, on⟩, bb, fun _ => rfl⟩)
    intro a w37 hF bb hall hne
    obtain ⟨vv38, e27, hh39⟩ := sS hall 1 27 rfl rfl
    obtain ⟨vv40, e29, hh41⟩ := sS hall 3 29 rfl rfl
    obtain ⟨g9, e9, ge9, o9⟩ : ∃ g, a.tmps.getD 9 undef = .pointer (some ⟨g, 0, none⟩) ∧ w13.heap.size ≤ g ∧ Own w37 g [.bool false, .slice none 0 0, .slice none 0 0] := hall 4 9 rfl
    have ne7_9 : g7 ≠ g9 := Nat.ne_of_lt (Nat.lt_of_lt_of_le o7.lt ge9)
    have ne8_9 : g8 ≠ g9 := Nat.ne_of_lt (Nat.lt_of_lt_of_le o8.lt ge9)
    obtain ⟨g10, e10, ge10, o10⟩ : ∃ g, a.tmps.getD 10 undef = .pointer (some ⟨g, 0, none⟩) ∧ w13.heap.size ≤ g ∧ Own w37 g [.bool false, .slice none 0 0, .slice none 0 0] := hall 5 10 rfl
    have ne7_10 : g7 ≠ g10 := Nat.ne_of_lt (Nat.lt_of_lt_of_le o7.lt ge10)
    have ne8_10 : g8 ≠ g10 := Nat.ne_of_lt (Nat.lt_of_lt_of_le o8.lt ge10)
    have ne9_10 : g9 ≠ g10 := by intro e; exact hne 4 5 9 10 rfl rfl (by decide) rfl rfl (by rw [e9, e10, e])
    replace ge9 : w.heap.size ≤ g9 := Nat.le_trans bel.size ge9
    replace ge10 : w.heap.size ≤ g10 := Nat.le_trans bel.size ge10
    clear hall hne
    replace hf10 := hf10.below bb
    replace hd9 := hd9.below bb
    replace hh6 := hh6.below bb
    replace hn9 := hn9.below bb
    replace ha11 := ha11.below bb
    replace hd11 := hd11.below bb
    replace hh8 := hh8.below bb
    replace hn11 := hn11.below bb
    replace o7 := o7.below bb
    replace o8 := o8.below bb
    replace bel := below_to bel bb
    clear bb
    obtain ⟨b42, ad42, n42, c42, ae42, m42, d42, rfl, hn42, hd42⟩ := Rq.shape hh39
    have hf43 := Wc.abs hn42
    replace hF := hF.add e27
    clear e27
    obtain ⟨b44, ad44, n44, c44, ae44, m44, d44, z44, D44, rfl, hn44, hd44, hD44, hq44, lz44, lD44⟩ := Rr.shape hh41
    have ha44 := hn44.abs
    replace hF := hF.add e29
    clear e29
    replace hF := hF.add e9
    clear e9
    replace hF := hF.add e10
    clear e10
    obtain ⟨w45, hr, tu, on⟩ := st_Rat (vs := [.bool b42, .slice ad42 n42 c42, .slice ae42 m42 d42]) o9 rfl rfl (ocB (ocS (ocS oc0))) (niB (niS (niS ni0))) (o := 0) rfl
    have kp := tu.keep o9
    refine E.st hF (r_store (hF.at 1 rfl) (hF.at 3 rfl) (hr _ rfl)) rfl rfl fun a hF => ?_
    clear hr
    replace hh41 := hh41.keep kp
    replace hn44 := hn44.keep kp
    replace ha44 := ha44.keep kp
    replace hd44 := hd44.keep kp
    replace hf10 := hf10.keep kp
    replace hd9 := hd9.keep kp
    replace hh6 := hh6.keep kp
    replace hn9 := hn9.keep kp
    replace ha11 := ha11.keep kp
    replace hd11 := hd11.keep kp
    replace hh8 := hh8.keep kp
    replace hn11 := hn11.keep kp
    replace hh39 := hh39.keep kp
    replace hn42 := hn42.keep kp
    replace hf43 := hf43.keep kp
    replace hd42 := hd42.keep kp
    replace o7 := tu.own o7 ne7_9
    replace o8 := tu.own o8 ne8_9
    replace o10 := tu.own o10 (Ne.symm ne9_10)
    replace bel := tu.below bel ge9
    clear tu kp
    replace o9 := on
    clear on
    obtain ⟨w46, hr, tu, on⟩ := st_RRat (vs := [.bool b44, .slice ad44 n44 c44, .slice ae44 m44 d44]) o10 rfl rfl (ocB (ocS (ocS oc0))) (niB (niS (niS ni0))) (o := 0) rfl
    have kp := tu.keep o10
    refine E.st hF (r_store (hF.at 0 rfl) (hF.at 2 rfl) (hr _ rfl)) rfl rfl fun a hF => ?_
    clear hr
    replace hf10 := hf10.keep kp
    replace hd9 := hd9.keep kp
    replace hh6 := hh6.keep kp
    replace hn9 := hn9.keep kp
    replace ha11 := ha11.keep kp
    replace hd11 := hd11.keep kp
    replace hh8 := hh8.keep kp
    replace hn11 := hn11.keep kp
    replace hf43 := hf43.keep kp
    replace hd42 := hd42.keep kp
    replace hh39 := hh39.keep kp
    replace hn42 := hn42.keep kp
    replace hh41 := hh41.keep kp
    replace hn44 := hn44.keep kp
    replace ha44 := ha44.keep kp
    replace hd44 := hd44.keep kp
    replace o7 := tu.own o7 ne7_10
    replace o8 := tu.own o8 ne8_10
    replace o9 := tu.own o9 ne9_10
    replace bel := tu.below bel ge10
    clear tu kp
    replace o10 := on
    clear on
    refine E.nil ?_
    refine wp_seq ?_
    refine E.drawn 36 mixed hF [30, 31, 32, 33, 34, 35, 36, 37, 38, 39, 40, 41, 42, 43, 44, 45, 46, 47, 48, 49, 50, 51, 52, 53, 54, 55, 56, 57, 58, 59, 60, 61, 62, 63, 64, 65] [(fun _ v => v = .agg #[.bool b9, .slice ad9 n9 c9, .slice ae9 m9 d9]), (fun _ v => v = .agg #[.bool b11, .slice ad11 n11 c11, .slice ae11 m11 d11]), (fun _ v => v = .int .i64 0), (fun _ v => v = .bool true), (fun _ v => v = .bool true), (fun w v => Rq w v (cre)), (fun w v => Rr w v (cre) (12)), (fun _ v => v = .int .i64 0), (fun _ v => v = .bool true), (fun _ v => v = .bool true), (fun _ v => v = .bool true), (fun _ v => v = .agg #[.bool b42, .slice ad42 n42 c42, .slice ae42 m42 d42]), (fun _ v => v = .agg #[.bool b9, .slice ad9 n9 c9, .slice ae9 m9 d9]), (fun w v => Rq w v (mof (((rawZ nega1 xa1 3 : Int) : Rat) / ((rawZ negb1 xb1 3 : Int) : Rat)) (((rawZ nega2 xa2 3 : Int) : Rat) / ((rawZ negb2 xb2 3 : Int) : Rat)))), (fun _ v => v = .agg #[.bool b44, .slice ad44 n44 c44, .slice ae44 m44 d44]), (fun _ v => v = .agg #[.bool b11, .slice ad11 n11 c11, .slice ae11 m11 d11]), (fun w v => Rr w v (mof (((rawZ nega1 xa1 3 : Int) : Rat) / ((rawZ negb1 xb1 3 : Int) : Rat)) (((rawZ nega2 xa2 3 : Int) : Rat) / ((rawZ negb2 xb2 3 : Int) : Rat))) ((3 + 3 + 3 + 3 + 30))), (fun _ v => v = .int .i64 0), (fun _ v => v = .bool true), (fun _ v => v = .bool true), (fun _ v => v = .bool true), (fun _ v => v = .agg #[.bool b42, .slice ad42 n42 c42, .slice ae42 m42 d42]), (fun w v => Rq w v (mof (((rawZ nega1 xa1 3 : Int) : Rat) / ((rawZ negb1 xb1 3 : Int) : Rat)) pyr)), (fun _ v => v = .agg #[.bool b42, .slice ad42 n42 c42, .slice ae42 m42 d42]), (fun w v => Rq w v (pyr)), (fun w v => Rq w v (mof (((rawZ nega1 xa1 3 : Int) : Rat) / ((rawZ negb1 xb1 3 : Int) : Rat)) (pyr))), (fun _ v => v = .bool true), (fun _ v => v = .bool true), (fun _ v => v = .bool true), (fun _ v => v = .agg #[.bool b42, .slice ad42 n42 c42, .slice ae42 m42 d42]), (fun w v => Rq w v (mof (((rawZ nega1 xa1 3 : Int) : Rat) / ((rawZ negb1 xb1 3 : Int) : Rat)) pmo)), (fun _ v => v = .agg #[.bool b42, .slice ad42 n42 c42, .slice ae42 m42 d42]), (fun w v => Rq w v (pmo)), (fun w v => Rq w v (mof (((rawZ nega1 xa1 3 : Int) : Rat) / ((rawZ negb1 xb1 3 : Int) : Rat)) (pmo))), (fun _ v => v = .bool true), (fun _ v => v = .bool true)] [] (by decide +kernel) (by decide +kernel) rfl rfl rfl ⟨(Mb.eq _), (Mb.eq _), (Mb.eq _), (Mb.eq _), (Mb.eq _), (fun _ _ _ h hb => h.below hb), (fun _ _ _ h hb => h.below hb), (Mb.eq _), (Mb.eq _), (Mb.eq _), (Mb.eq _), (Mb.eq _), (Mb.eq _), (fun _ _ _ h hb => h.below hb), (Mb.eq _), (Mb.eq _), (fun _ _ _ h hb => h.below hb), (Mb.eq _), (Mb.eq _), (Mb.eq _), (Mb.eq _), (Mb.eq _), (fun _ _ _ h hb => h.below hb), (Mb.eq _), (fun _ _ _ h hb => h.below hb), (fun _ _ _ h hb => h.below hb), (Mb.eq _), (Mb.eq _), (Mb.eq _), (Mb.eq _), (fun _ _ _ h hb => h.below hb), (Mb.eq _), (fun _ _ _ h hb => h.below hb), (fun _ _ _ h hb => h.below hb), (Mb.eq _), (Mb.eq _), trivial⟩ trivial ⟨?_, ?_, ?_, ?_, ?_, ?_, ?_, ?_, ?_, ?_, ?_, ?_, ?_, ?_, ?_, ?_, ?_, ?_, ?_, ?_, ?_, ?_, ?_, ?_, ?_, ?_, ?_, ?_, ?_, ?_, ?_, ?_, ?_, ?_, ?_, ?_, trivial⟩ ?_
    · intro a' w' hF' hb hd
      exact dv0 (r_load (hF'.at 7 rfl) (ld_Rat (vs := [.bool b9, .slice ad9 n9 c9, .slice ae9 m9 d9]) (o7.below hb) rfl rfl)) rfl rfl rfl
    · intro a' w' hF' hb hd
      exact dv0 (r_load (hF'.at 6 rfl) (ld_RRat (vs := [.bool b11, .slice ad11 n11 c11, .slice ae11 m11 d11]) (o8.below hb) rfl rfl)) rfl rfl rfl
    · intro a' w' hF' hb hd
      have e30 := sHe hd 0 30 rfl rfl rfl rfl
      have e31 := sHe hd 1 31 rfl rfl rfl rfl
      exact dcx0 (r_call Tryz.func9 en9.1 en9.2 (map2 e30 e31)) (Is5_any _ _ _ _ 3 3 _ (hh6.below hb) (hh8.below hb) (own5_lim nega2 negb2 oka2 okb2 3 (by decide)) rfl (by omega) (by omega)) (fun _ => rfl) rfl rfl
    · intro a' w' hF' hb hd
      have e32 := sHe hd 0 32 rfl rfl rfl rfl
      exact dv0 (r_bin e32 ev_c eg_scalar (bi_int (ic_eql (c := true) (by decide)) (by simp))) rfl rfl rfl
    · intro a' w' hF' hb hd
      have e33 := sHe hd 0 33 rfl rfl rfl rfl
      exact dv0 (r_move e33) rfl rfl rfl
    · intro a' w' hF' hb hd
      have e34 := sHe hd 0 34 rfl rfl rfl rfl
      exact dc1 (wanted_by rfl rfl e34 rfl) (r_call Tryz.func10 en10.1 en10.2 map0) (mCreation_any _) rfl
    · intro a' w' hF' hb hd
      have e34 := sHe hd 1 34 rfl rfl rfl rfl
      exact dc1 (wanted_by rfl rfl e34 rfl) (r_call Tryz.func11 en11.1 en11.2 map0) (rCreation11_any _) rfl
    · intro a' w' hF' hb hd
      have e34 := sHe hd 3 34 rfl rfl rfl rfl
      obtain ⟨v35_0, e35, h35_1⟩ := sH hd 0 35 rfl rfl rfl rfl
      obtain ⟨v36_0, e36, h36_1⟩ := sH hd 1 36 rfl rfl rfl rfl
      exact dcx1 (wanted_by rfl rfl e34 rfl) (r_call Tryz.func9 en9.1 en9.2 (map2 e35 e36)) (Is5_any _ _ (cre) (cre) 2 12 _ h35_1 h36_1 cre_lim rfl (by omega) (by omega)) (fun _ => rfl) rfl
    · intro a' w' hF' hb hd
      have e34 := sHe hd 1 34 rfl rfl rfl rfl
      have e37 := sHe hd 0 37 rfl rfl rfl rfl
      exact dv1 (wanted_by rfl rfl e34 rfl) (r_bin e37 ev_c eg_scalar (bi_int (ic_eql (c := true) (by decide)) (by simp))) rfl rfl
    · intro a' w' hF' hb hd
      have e34 := sHe hd 0 34 rfl rfl rfl rfl
      have e38 := sHe hd 1 38 rfl rfl rfl rfl
      exact dv0 (r_pick_t e34 e38) rfl rfl rfl
    · intro a' w' hF' hb hd
      have e39 := sHe hd 0 39 rfl rfl rfl rfl
      exact dv0 (r_move e39) rfl rfl rfl
    · intro a' w' hF' hb hd
      have e40 := sHe hd 0 40 rfl rfl rfl rfl
      exact dv1 (wanted_by rfl rfl e40 rfl) (r_load (hF'.at 1 rfl) (ld_Rat (vs := [.bool b42, .slice ad42 n42 c42, .slice ae42 m42 d42]) (o9.below hb) rfl rfl)) rfl rfl
    · intro a' w' hF' hb hd
      have e40 := sHe hd 0 40 rfl rfl rfl rfl
      exact dv1 (wanted_by rfl rfl e40 rfl) (r_load (hF'.at 7 rfl) (ld_Rat (vs := [.bool b9, .slice ad9 n9 c9, .slice ae9 m9 d9]) (o7.below hb) rfl rfl)) rfl rfl
    · intro a' w' hF' hb hd
      have e40 := sHe hd 2 40 rfl rfl rfl rfl
      have e41 := sHe hd 0 41 rfl rfl rfl rfl
      have e42 := sHe hd 1 42 rfl rfl rfl rfl
      exact dc1 (wanted_by rfl rfl e40 rfl) (r_call Tryz.func12 en12.1 en12.2 (map2 e41 e42)) (mOf_any _ _ _ _ 3 3 _ (hh39.below hb) (hh6.below hb) (own5_lim nega1 negb1 oka1 okb1 3 (by decide)) (own5_lim nega2 negb2 oka2 okb2 3 (by decide)) (by omega) (by omega)) rfl
    · intro a' w' hF' hb hd
      have e40 := sHe hd 0 40 rfl rfl rfl rfl
      exact dv1 (wanted_by rfl rfl e40 rfl) (r_load (hF'.at 0 rfl) (ld_RRat (vs := [.bool b44, .slice ad44 n44 c44, .slice ae44 m44 d44]) (o10.below hb) rfl rfl)) rfl rfl
    · intro a' w' hF' hb hd
      have e40 := sHe hd 0 40 rfl rfl rfl rfl
      exact dv1 (wanted_by rfl rfl e40 rfl) (r_load (hF'.at 6 rfl) (ld_RRat (vs := [.bool b11, .slice ad11 n11 c11, .slice ae11 m11 d11]) (o8.below hb) rfl rfl)) rfl rfl
    · intro a' w' hF' hb hd
      have e40 := sHe hd 3 40 rfl rfl rfl rfl
      have e44 := sHe hd 0 44 rfl rfl rfl rfl
      have e45 := sHe hd 1 45 rfl rfl rfl rfl
      exact dc1 (wanted_by rfl rfl e40 rfl) (r_call Tryz.func13 en13.1 en13.2 (map2 e44 e45)) (rMof_any _ _ _ _ 3 3 3 3 _ (hh41.below hb) (hh8.below hb) (own5_lim nega1 negb1 oka1 okb1 3 (by decide)) (own5_lim nega2 negb2 oka2 okb2 3 (by decide)) (by omega) (by omega) (by omega) (by omega) (by omega) (by omega)) rfl
    · intro a' w' hF' hb hd
      have e40 := sHe hd 3 40 rfl rfl rfl rfl
      obtain ⟨v43_0, e43, h43_1⟩ := sH hd 0 43 rfl rfl rfl rfl
      obtain ⟨v46_0, e46, h46_1⟩ := sH hd 1 46 rfl rfl rfl rfl
      exact dcx1 (wanted_by rfl rfl e40 rfl) (r_call Tryz.func9 en9.1 en9.2 (map2 e43 e46)) (Is5_any _ _ _ _ (3 + 3 + 5) (3 + 3 + 3 + 3 + 30) _ h43_1 h46_1 (mof_lim (own5_lim nega1 negb1 oka1 okb1 3 (by decide)) (own5_lim nega2 negb2 oka2 okb2 3 (by decide))) rfl (by omega) (by omega)) (fun _ => rfl) rfl
    · intro a' w' hF' hb hd
      have e40 := sHe hd 1 40 rfl rfl rfl rfl
      have e47 := sHe hd 0 47 rfl rfl rfl rfl
      exact dv1 (wanted_by rfl rfl e40 rfl) (r_bin e47 ev_c eg_scalar (bi_int (ic_eql (c := true) (by decide)) (by simp))) rfl rfl
    · intro a' w' hF' hb hd
      have e40 := sHe hd 0 40 rfl rfl rfl rfl
      have e48 := sHe hd 1 48 rfl rfl rfl rfl
      exact dv0 (r_pick_t e40 e48) rfl rfl rfl
    · intro a' w' hF' hb hd
      have e49 := sHe hd 0 49 rfl rfl rfl rfl
      exact dv0 (r_move e49) rfl rfl rfl
    · intro a' w' hF' hb hd
      have e50 := sHe hd 0 50 rfl rfl rfl rfl
      exact dv1 (wanted_by rfl rfl e50 rfl) (r_load (hF'.at 1 rfl) (ld_Rat (vs := [.bool b42, .slice ad42 n42 c42, .slice ae42 m42 d42]) (o9.below hb) rfl rfl)) rfl rfl
    · intro a' w' hF' hb hd
      have e50 := sHe hd 1 50 rfl rfl rfl rfl
      have e51 := sHe hd 0 51 rfl rfl rfl rfl
      exact dc1 (wanted_by rfl rfl e50 rfl) (r_call Tryz.func14 en14.1 en14.2 (map1 e51)) (mSun_any _ _ 3 _ (hh39.below hb) (own5_lim nega1 negb1 oka1 okb1 3 (by decide)) (by omega)) rfl
    · intro a' w' hF' hb hd
      have e50 := sHe hd 0 50 rfl rfl rfl rfl
      exact dv1 (wanted_by rfl rfl e50 rfl) (r_load (hF'.at 1 rfl) (ld_Rat (vs := [.bool b42, .slice ad42 n42 c42, .slice ae42 m42 d42]) (o9.below hb) rfl rfl)) rfl rfl
    · intro a' w' hF' hb hd
      have e50 := sHe hd 1 50 rfl rfl rfl rfl
      exact dc1 (wanted_by rfl rfl e50 rfl) (r_call Tryz.func16 en16.1 en16.2 map0) (mYear_any _) rfl
    · intro a' w' hF' hb hd
      have e50 := sHe hd 3 50 rfl rfl rfl rfl
      have e53 := sHe hd 0 53 rfl rfl rfl rfl
      obtain ⟨v54_0, e54, h54_1⟩ := sH hd 1 54 rfl rfl rfl rfl
      exact dc1 (wanted_by rfl rfl e50 rfl) (r_call Tryz.func12 en12.1 en12.2 (map2 e53 e54)) (mOf_any _ _ _ (pyr) 3 2 _ (hh39.below hb) h54_1 (own5_lim nega1 negb1 oka1 okb1 3 (by decide)) pyr_lim (by omega) (by omega)) rfl
    · intro a' w' hF' hb hd
      have e50 := sHe hd 3 50 rfl rfl rfl rfl
      obtain ⟨v52_0, e52, h52_1⟩ := sH hd 0 52 rfl rfl rfl rfl
      obtain ⟨v55_0, e55, h55_1⟩ := sH hd 1 55 rfl rfl rfl rfl
      exact dcx1 (wanted_by rfl rfl e50 rfl) (r_call Tryz.func15 en15.1 en15.2 (map2 e52 e55)) (rSame_true _ _ _ _ _ h52_1 h55_1 rfl) (fun _ => rfl) rfl
    · intro a' w' hF' hb hd
      have e50 := sHe hd 0 50 rfl rfl rfl rfl
      have e56 := sHe hd 1 56 rfl rfl rfl rfl
      exact dv0 (r_pick_t e50 e56) rfl rfl rfl
    · intro a' w' hF' hb hd
      have e57 := sHe hd 0 57 rfl rfl rfl rfl
      exact dv0 (r_move e57) rfl rfl rfl
    · intro a' w' hF' hb hd
      have e58 := sHe hd 0 58 rfl rfl rfl rfl
      exact dv1 (wanted_by rfl rfl e58 rfl) (r_load (hF'.at 1 rfl) (ld_Rat (vs := [.bool b42, .slice ad42 n42 c42, .slice ae42 m42 d42]) (o9.below hb) rfl rfl)) rfl rfl
    · intro a' w' hF' hb hd
      have e58 := sHe hd 1 58 rfl rfl rfl rfl
      have e59 := sHe hd 0 59 rfl rfl rfl rfl
      exact dc1 (wanted_by rfl rfl e58 rfl) (r_call Tryz.func17 en17.1 en17.2 (map1 e59)) (mMoon_any _ _ 3 _ (hh39.below hb) (own5_lim nega1 negb1 oka1 okb1 3 (by decide)) (by omega)) rfl
    · intro a' w' hF' hb hd
      have e58 := sHe hd 0 58 rfl rfl rfl rfl
      exact dv1 (wanted_by rfl rfl e58 rfl) (r_load (hF'.at 1 rfl) (ld_Rat (vs := [.bool b42, .slice ad42 n42 c42, .slice ae42 m42 d42]) (o9.below hb) rfl rfl)) rfl rfl
    · intro a' w' hF' hb hd
      have e58 := sHe hd 1 58 rfl rfl rfl rfl
      exact dc1 (wanted_by rfl rfl e58 rfl) (r_call Tryz.func18 en18.1 en18.2 map0) (mMonth_any _) rfl
    · intro a' w' hF' hb hd
      have e58 := sHe hd 3 58 rfl rfl rfl rfl
      have e61 := sHe hd 0 61 rfl rfl rfl rfl
      obtain ⟨v62_0, e62, h62_1⟩ := sH hd 1 62 rfl rfl rfl rfl
      exact dc1 (wanted_by rfl rfl e58 rfl) (r_call Tryz.func12 en12.1 en12.2 (map2 e61 e62)) (mOf_any _ _ _ (pmo) 3 2 _ (hh39.below hb) h62_1 (own5_lim nega1 negb1 oka1 okb1 3 (by decide)) pmo_lim (by omega) (by omega)) rfl
    · intro a' w' hF' hb hd
      have e58 := sHe hd 3 58 rfl rfl rfl rfl
      obtain ⟨v60_0, e60, h60_1⟩ := sH hd 0 60 rfl rfl rfl rfl
      obtain ⟨v63_0, e63, h63_1⟩ := sH hd 1 63 rfl rfl rfl rfl
      exact dcx1 (wanted_by rfl rfl e58 rfl) (r_call Tryz.func15 en15.1 en15.2 (map2 e60 e63)) (rSame_true _ _ _ _ _ h60_1 h63_1 rfl) (fun _ => rfl) rfl
    · intro a' w' hF' hb hd
      have e58 := sHe hd 0 58 rfl rfl rfl rfl
      have e64 := sHe hd 1 64 rfl rfl rfl rfl
      exact dv0 (r_pick_t e58 e64) rfl rfl rfl
    intro a w47 hF bb hall hne
    have e65 := sSe hall 35 65 rfl rfl
    clear hall hne
    replace bel := below_to bel bb
    clear bb
    replace hF := hF.add e65
    clear e65
    refine E.opset (L' := [(6, .bool true), (65, .bool true), (10, .pointer (some ⟨g10, 0, none⟩)), (9, .pointer (some ⟨g9, 0, none⟩)), (29, .agg #[.bool b44, .slice ad44 n44 c44, .slice ae44 m44 d44]), (27, .agg #[.bool b42, .slice ad42 n42 c42, .slice ae42 m42 d42]), (21, .bool false), (20, .int .i64 ((kk % 256) % 6)), (8, .pointer (some ⟨g8, 0, none⟩)), (7, .pointer (some ⟨g7, 0, none⟩)), (19, .agg #[.bool b11, .slice ad11 n11 c11, .slice ae11 m11 d11]), (17, .agg #[.bool b9, .slice ad9 n9 c9, .slice ae9 m9 d9]), (2, .int .i64 ((kk % 256) % 6)), (15, .int .i64 ((kk % 256) % 6)), (14, .int .i64 (kk % 256)), (13, .int .i64 kk), (12, .bool false), (11, .bool true), (4, .pointer (some ⟨g4, 0, none⟩)), (3, .pointer (some ⟨g3, 0, none⟩)), (0, .agg #[.bool nega1, .slice aa1 na1 ca1, .bool negb1, .slice ab1 nb1 cb1]), (1, .agg #[.bool nega2, .slice aa2 na2 ca2, .bool negb2, .slice ab2 nb2 cb2])]) hF (r_assign (hF.at 0 rfl)) rfl rfl rfl rfl fun a hF => ?_
    refine E.nil ?_
    refine wp_ret ?_
    refine bodyPost_ret (res_tmp Tryz.results3 (hF.at 0 rfl)) hF.dfr ?_
    exact ⟨rfl, bel⟩

end Go.Proofs.YtmpdbkdijfpbbaaGreat
