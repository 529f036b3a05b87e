/- DigitsTexts. -/
import Derived.Test.YthoiocjbjfhgpaaDtW
import Derived.Test.YthoiocjbjfhgpaaG9
import Derived.Test.YthoiocjbjfhgpaaPrG
namespace Go.Proofs.Ythoiocjbjfhgpaa
open Go.RowKit
set_option maxRecDepth 100000
set_option linter.unusedVariables false

theorem rawtx {z : Int} {m : Nat} (h : Lim z.natAbs m) (hm : m ≤ 30) : pe (tx z) = 0 ∧ pz (tx z) = z := pz_tx (Nat.le_trans (dl10_le (lim_pow h)) (by omega))
theorem Rz.castT {w : World} {v : Value} {z z' : Int} (h : Rz w v z) (e : z = z') : Rz w v z' := by subst e; exact h
set_option maxHeartbeats 8000000 in
theorem digitsTexts_walk (neg1 : Bool) (a1 : Option Addr) (n1 c1 : Nat) (x1 : List Nat) (w : World) (h1 : InX w a1 n1 c1 x1) :
    Calls Try.prog 4 #[.agg #[.bool neg1, .slice a1 n1 c1]] w (TruePost w) := by
  have ok1 := h1.ok
  have htx := rawtx (rawZ_limo neg1 ok1 10) (by decide)
  have htl := tx_len (lim_pow (rawZ_limo neg1 ok1 10))
  have bel : Below w.heap.size w w := Below.refl _ _
  refine E.enter (nt := 35) (L := [(0, .agg #[.bool neg1, .slice a1 n1 c1])]) Try.func4 rfl rfl rfl (args_cons (i := 0) rfl args_nil) ?_
  intro a hF
  refine wp_seq ?_
  refine E.seq ?_
  obtain ⟨g1, w1, ge1, hr, bb, o1⟩ := own_box (P := Try.prog) (w := w) (cs := [.bool neg1, .slice a1 n1 c1]) (v := .agg #[.bool neg1, .slice a1 n1 c1]) 35 rfl (niB (niS ni0))
  replace ge1 : w.heap.size ≤ g1 := by rw [← ge1]; exact bel.size
  refine E.opv hF (r_box (hF.at 0 rfl) hr) rfl rfl rfl rfl fun a hF => ?_
  clear hr
  replace h1 := h1.below bb
  replace bel := below_to bel bb
  clear bb
  refine E.opv hF (r_assign ev_c) rfl rfl rfl rfl fun a hF => ?_
  refine E.nil ?_
  refine wp_seq ?_
  refine wp_seq ?_
  refine E.seq ?_
  refine E.call hF (r_call Try.func13 en13.1 en13.2 map0) (awake4_any _) rfl rfl rfl rfl ?_
  rintro e w2 ⟨rfl, bb⟩
  refine ⟨_, rfl, ?_⟩
  intro a hF
  replace h1 := h1.below bb
  replace o1 := o1.below bb
  replace bel := below_to bel bb
  clear bb
  refine E.opv hF (r_un (hF.at 0 rfl) (bn_not _ false rfl)) rfl rfl rfl rfl fun a hF => ?_
  refine E.nil ?_
  refine wp_cond_false (hF.at 0 rfl) ?_
  refine wp_skip ?_
  refine E.norm ?_
  refine wp_seq ?_
  refine E.drawn 6 mixed hF [10, 11, 12, 13, 3, 4] [(fun _ v => v = .agg #[.bool neg1, .slice a1 n1 c1]), (fun w v => Wz w v (rawZ neg1 x1 10)), (fun _ v => v = .agg #[.bool neg1, .slice a1 n1 c1]), (fun w v => Rz w v (rawZ neg1 x1 10)), (fun w v => ∃ g, v = .pointer (some ⟨g, 0, none⟩) ∧ w2.heap.size ≤ g ∧ Own w g [.bool false, .slice none 0 0]), (fun w v => ∃ g, v = .pointer (some ⟨g, 0, none⟩) ∧ w2.heap.size ≤ g ∧ Own w g [.bool false, .slice none 0 0])] [4, 5] (by decide +kernel) (by decide +kernel) rfl rfl rfl ⟨(Mb.eq _), (fun _ _ _ h hb => h.below hb), (Mb.eq _), (fun _ _ _ h hb => h.below hb), (fun _ _ _ ⟨g, e, l, o⟩ hb => ⟨g, e, l, o.below hb⟩), (fun _ _ _ ⟨g, e, l, o⟩ hb => ⟨g, e, l, o.below hb⟩), trivial⟩ ⟨fun _ _ ⟨g, e, _, o⟩ => ⟨g, e, o.lt⟩, ⟨fun _ _ ⟨g, e, _, o⟩ => ⟨g, e, o.lt⟩, trivial⟩⟩ ⟨?_, ?_, ?_, ?_, ?_, ?_, trivial⟩ ?_
  · intro a' w' hF' hb hd
    exact if_does (wanted_free rfl) (Does.vals (r_load (hF'.at 3 rfl) (ld_Raw (vs := [.bool neg1, .slice a1 n1 c1]) (o1.below hb) rfl rfl)) ⟨rfl, Below.refl _ _, (fun h => absurd h (by decide))⟩)
  · intro a' w' hF' hb hd
    have e10 : a'.tmps.getD 10 undef = .agg #[.bool neg1, .slice a1 n1 c1] := hd _ 10 (Array.mem_of_getElem? (i := 0) rfl) rfl rfl
    refine if_does (wanted_free rfl) (Does.calls (r_call Try.func14 en14.1 en14.2 (map2 e10 ev_c)) (own_any neg1 a1 n1 c1 10 x1 _ (h1.below hb) (by omega)) ?_)
    rintro e w'' ⟨v', rfl, h', bb⟩
    exact ⟨_, rfl, h', bb, (fun h => absurd h (by decide))⟩
  · intro a' w' hF' hb hd
    exact if_does (wanted_free rfl) (Does.vals (r_load (hF'.at 3 rfl) (ld_Raw (vs := [.bool neg1, .slice a1 n1 c1]) (o1.below hb) rfl rfl)) ⟨rfl, Below.refl _ _, (fun h => absurd h (by decide))⟩)
  · intro a' w' hF' hb hd
    have e12 : a'.tmps.getD 12 undef = .agg #[.bool neg1, .slice a1 n1 c1] := hd _ 12 (Array.mem_of_getElem? (i := 0) rfl) rfl rfl
    refine if_does (wanted_free rfl) (Does.calls (r_call Try.func15 en15.1 en15.2 (map2 e12 ev_c)) (told_any neg1 a1 n1 c1 10 x1 _ (h1.below hb) (by omega)) ?_)
    rintro e w'' ⟨v', rfl, h', bb⟩
    exact ⟨_, rfl, h', bb, (fun h => absurd h (by decide))⟩
  · intro a' w' hF' hb hd
    obtain ⟨g, w2, ge, hr, bb, on⟩ := own_alloc (P := Try.prog) (w := w') (cs := [.bool false, .slice none 0 0]) 37 ze_Int rfl (niB (niS ni0))
    subst ge
    exact if_does (wanted_free rfl) (Does.vals (r_alloc hr) ⟨⟨_, rfl, hb.size, on⟩, bb, fun _ => rfl⟩)
  · intro a' w' hF' hb hd
    obtain ⟨g, w2, ge, hr, bb, on⟩ := own_alloc (P := Try.prog) (w := w') (cs := [.bool false, .slice none 0 0]) 41 ze_RInt rfl (niB (niS ni0))
    subst ge
    exact if_does (wanted_free rfl) (Does.vals (r_alloc hr) ⟨⟨_, rfl, hb.size, on⟩, bb, fun _ => rfl⟩)
  intro a w3 hF bb hall hne
  obtain ⟨vv4, e11, hh5⟩ : ∃ v, a.tmps.getD 11 undef = v ∧ Wz w3 v (rawZ neg1 x1 10) := ⟨_, rfl, hall 1 11 rfl⟩
  obtain ⟨vv6, e13, hh7⟩ : ∃ v, a.tmps.getD 13 undef = v ∧ Rz w3 v (rawZ neg1 x1 10) := ⟨_, rfl, hall 3 13 rfl⟩
  obtain ⟨g3, e3, ge3, o3⟩ : ∃ g, a.tmps.getD 3 undef = .pointer (some ⟨g, 0, none⟩) ∧ w2.heap.size ≤ g ∧ Own w3 g [.bool false, .slice none 0 0] := hall 4 3 rfl
  obtain ⟨g4, e4, ge4, o4⟩ : ∃ g, a.tmps.getD 4 undef = .pointer (some ⟨g, 0, none⟩) ∧ w2.heap.size ≤ g ∧ Own w3 g [.bool false, .slice none 0 0] := hall 5 4 rfl
  have ne3_4 : g3 ≠ g4 := by intro e; exact hne 4 5 3 4 rfl rfl (by decide) rfl rfl (by rw [e3, e4, e])
  replace ge3 : w.heap.size ≤ g3 := Nat.le_trans bel.size ge3
  replace ge4 : w.heap.size ≤ g4 := Nat.le_trans bel.size ge4
  clear hall hne
  replace bel := below_to bel bb
  clear bb
  obtain ⟨b8, ad8, n8, c8, rfl⟩ := Wz.form hh5
  replace hF := hF.add e11
  clear e11
  obtain ⟨b9, ad9, n9, c9, rfl⟩ := Rz.form hh7
  replace hF := hF.add e13
  clear e13
  replace hF := hF.add e3
  clear e3
  replace hF := hF.add e4
  clear e4
  obtain ⟨w10, hr, tu, on⟩ := st_Int (vs := [.bool b8, .slice ad8 n8 c8]) o3 rfl rfl (ocB (ocS oc0)) (niB (niS ni0)) (o := 0) rfl
  have kp := tu.keep o3
  refine E.st hF (r_store (hF.at 1 rfl) (hF.at 3 rfl) (hr _ rfl)) rfl rfl fun a hF => ?_
  clear hr
  replace hh7 := hh7.keep kp
  replace hh5 := hh5.keep kp
  replace o4 := tu.own o4 (Ne.symm ne3_4)
  replace bel := tu.below bel ge3
  clear tu kp
  replace o3 := on
  clear on
  have hf11 := Wz.abso hh5
  obtain ⟨w12, hr, tu, on⟩ := st_RInt (vs := [.bool b9, .slice ad9 n9 c9]) o4 rfl rfl (ocB (ocS oc0)) (niB (niS ni0)) (o := 0) rfl
  have kp := tu.keep o4
  refine E.st hF (r_store (hF.at 0 rfl) (hF.at 2 rfl) (hr _ rfl)) rfl rfl fun a hF => ?_
  clear hr
  replace hf11 := hf11.keep kp
  replace hh5 := hh5.keep kp
  replace hh7 := hh7.keep kp
  replace o3 := tu.own o3 ne3_4
  replace bel := tu.below bel ge4
  clear tu kp
  replace o4 := on
  clear on
  have hf13 := Rz.abs hh7
  refine E.nil ?_
  refine wp_seq ?_
  refine E.seq ?_
  refine E.opv hF (r_load (hF.at 1 rfl) (ld_Int (vs := [.bool b8, .slice ad8 n8 c8]) o3 rfl rfl)) rfl rfl rfl rfl fun a hF => ?_
  refine E.call hF (r_call Try.func16 en16.1 en16.2 (map1 (hF.at 0 rfl))) (dtext_wide _ (rawZ neg1 x1 10) (32 * 10) _ hh5 (lim_pow (rawZ_limo neg1 ok1 10)) (by omega)) rfl rfl rfl rfl ?_
  rintro e w14 ⟨rfl, bb⟩
  refine ⟨_, rfl, ?_⟩
  intro a hF
  replace hf13 := hf13.below bb
  replace hh7 := hh7.below bb
  replace o4 := o4.below bb
  replace bel := below_to bel bb
  clear bb
  refine E.opv hF (r_assign (hF.at 0 rfl)) rfl rfl rfl rfl fun a hF => ?_
  refine E.nil ?_
  refine wp_seq ?_
  refine E.seq ?_
  refine E.opv hF (r_move (hF.at 0 rfl)) rfl rfl rfl rfl fun a hF => ?_
  refine E.call hF (r_call Try.func17 en17.1 en17.2 (map1 (hF.at 0 rfl))) (parse_any (tx (rawZ neg1 x1 10)) _ (tx_okb _) (by first | omega | decide)) rfl rfl rfl rfl ?_
  rintro e w15 ⟨vv16, rfl, hh17, bb⟩
  refine ⟨_, rfl, ?_⟩
  intro a hF
  replace hf13 := hf13.below bb
  replace hh7 := hh7.below bb
  replace o4 := o4.below bb
  replace bel := below_to bel bb
  clear bb
  obtain ⟨ad18, n18, c18, rfl, _⟩ := Wc.shape hh17
  refine E.opv hF (r_move (hF.at 0 rfl)) rfl rfl rfl rfl fun a hF => ?_
  refine E.opv hF (r_extract (v := .agg #[.bool (decide (pz (tx (rawZ neg1 x1 10)) < 0)), .slice ad18 n18 c18]) (hF.at 0 rfl) rfl) rfl rfl rfl rfl fun a hF => ?_
  refine E.opv hF (r_extract (v := .int .i64 (pe (tx (rawZ neg1 x1 10)))) (hF.at 1 rfl) rfl) rfl rfl rfl rfl fun a hF => ?_
  obtain ⟨g6, w19, ge6, hr, bb, o6⟩ := own_alloc (P := Try.prog) (w := w15) (cs := [.bool false, .slice none 0 0]) 37 ze_Int rfl (niB (niS ni0))
  have ne4_6 : g4 ≠ g6 := by rw [← ge6]; exact o4.ne_new
  replace ge6 : w.heap.size ≤ g6 := by rw [← ge6]; exact bel.size
  refine E.opv hF (r_alloc hr) rfl rfl rfl rfl fun a hF => ?_
  clear hr
  replace hh17 := hh17.below bb
  replace hf13 := hf13.below bb
  replace hh7 := hh7.below bb
  replace o4 := o4.below bb
  replace bel := below_to bel bb
  clear bb
  obtain ⟨w20, hr, tu, on⟩ := st_Int (vs := [.bool (decide (pz (tx (rawZ neg1 x1 10)) < 0)), .slice ad18 n18 c18]) o6 rfl rfl (ocB (ocS oc0)) (niB (niS ni0)) (o := 0) rfl
  have kp := tu.keep o6
  refine E.st hF (r_store (hF.at 0 rfl) (hF.at 2 rfl) (hr _ rfl)) rfl rfl fun a hF => ?_
  clear hr
  replace hf13 := hf13.keep kp
  replace hh7 := hh7.keep kp
  replace hh17 := hh17.keep kp
  replace o4 := tu.own o4 ne4_6
  replace bel := tu.below bel ge6
  clear tu kp
  replace o6 := on
  clear on
  have hf21 := Wc.abs hh17
  refine E.opv hF (r_assign (hF.at 1 rfl)) rfl rfl rfl rfl fun a hF => ?_
  refine E.nil ?_
  refine wp_seq ?_
  refine E.seq ?_
  refine E.opv hF (r_move (hF.at 7 rfl)) rfl rfl rfl rfl fun a hF => ?_
  refine E.opv hF (r_load (hF.at 11 rfl) (ld_RInt (vs := [.bool b9, .slice ad9 n9 c9]) o4 rfl rfl)) rfl rfl rfl rfl fun a hF => ?_
  refine E.call hF (r_call Try.func18 en18.1 en18.2 (map1 (hF.at 0 rfl))) (rtext_any _ (rawZ neg1 x1 10) 10 _ hh7 (rawZ_limo neg1 ok1 10) (by omega)) rfl rfl rfl rfl ?_
  rintro e w22 ⟨rfl, bb⟩
  refine ⟨_, rfl, ?_⟩
  intro a hF
  replace hf13 := hf13.below bb
  replace hh7 := hh7.below bb
  replace hf21 := hf21.below bb
  replace hh17 := hh17.below bb
  replace o4 := o4.below bb
  replace o6 := o6.below bb
  replace bel := below_to bel bb
  clear bb
  refine E.opv hF (r_bin (hF.at 2 rfl) (hF.at 0 rfl) eg_str (sb_eq (xs := tx (rawZ neg1 x1 10)) (ys := tx (rawZ neg1 x1 10)) (streq_t rfl))) rfl rfl rfl rfl fun a hF => ?_
  refine E.opv hF (r_move (hF.at 0 rfl)) rfl rfl rfl rfl fun a hF => ?_
  refine E.opvg hF (r_move (hF.at 5 rfl)) (wanted_by rfl rfl (hF.at 0 rfl) rfl) rfl rfl rfl fun a hF => ?_
  refine E.opvg hF (r_bin (hF.at 0 rfl) ev_c eg_scalar (bi_int (ic_eql (c := true) (dec_tt htx.1)) (by simp))) (wanted_by rfl rfl (hF.at 1 rfl) rfl) rfl rfl rfl fun a hF => ?_
  refine E.opv hF (r_pick_t (hF.at 2 rfl) (hF.at 0 rfl)) rfl rfl rfl rfl fun a hF => ?_
  refine E.opv hF (r_move (hF.at 0 rfl)) rfl rfl rfl rfl fun a hF => ?_
  refine E.opvg hF (r_load (hF.at 10 rfl) (ld_Int (vs := [.bool (decide (pz (tx (rawZ neg1 x1 10)) < 0)), .slice ad18 n18 c18]) o6 rfl rfl)) (wanted_by rfl rfl (hF.at 0 rfl) rfl) rfl rfl rfl fun a hF => ?_
  refine E.opvg hF (r_load (hF.at 20 rfl) (ld_RInt (vs := [.bool b9, .slice ad9 n9 c9]) o4 rfl rfl)) (wanted_by rfl rfl (hF.at 1 rfl) rfl) rfl rfl rfl fun a hF => ?_
  refine E.callg hF (r_call Try.func19 en19.1 en19.2 (map2 (hF.at 1 rfl) (hF.at 0 rfl))) (Is3_any _ _ (pz (tx (rawZ neg1 x1 10))) _ hh17 (Rz.castT hh7 htx.2.symm)) (wanted_by rfl rfl (hF.at 2 rfl) rfl) rfl rfl rfl ?_
  rintro e w23 ⟨rfl, bb⟩
  refine ⟨_, rfl, ?_⟩
  intro a hF
  replace bel := below_to bel bb
  clear bb
  refine E.opvg hF (r_bin (hF.at 0 rfl) ev_c eg_scalar (bi_int (ic_eql (c := true) (by decide)) (by simp))) (wanted_by rfl rfl (hF.at 3 rfl) rfl) rfl rfl rfl fun a hF => ?_
  refine E.opv hF (r_pick_t (hF.at 4 rfl) (hF.at 0 rfl)) rfl rfl rfl rfl fun a hF => ?_
  refine E.opset (L' := [(2, .bool true), (34, .bool true), (33, .bool true), (32, .int .i64 0), (31, .agg #[.bool b9, .slice ad9 n9 c9]), (30, .agg #[.bool (decide (pz (tx (rawZ neg1 x1 10)) < 0)), .slice ad18 n18 c18]), (29, .bool true), (28, .bool true), (27, .bool true), (26, .int .i64 (pe (tx (rawZ neg1 x1 10)))), (25, .bool true), (24, .bool true), (23, .string (bstr (tx (rawZ neg1 x1 10)))), (22, .agg #[.bool b9, .slice ad9 n9 c9]), (21, .string (bstr (tx (rawZ neg1 x1 10)))), (7, .int .i64 (pe (tx (rawZ neg1 x1 10)))), (6, .pointer (some ⟨g6, 0, none⟩)), (20, .int .i64 (pe (tx (rawZ neg1 x1 10)))), (19, .agg #[.bool (decide (pz (tx (rawZ neg1 x1 10)) < 0)), .slice ad18 n18 c18]), (16, .tuple #[.agg #[.bool (decide (pz (tx (rawZ neg1 x1 10)) < 0)), .slice ad18 n18 c18], .int .i64 (pe (tx (rawZ neg1 x1 10)))]), (18, .tuple #[.agg #[.bool (decide (pz (tx (rawZ neg1 x1 10)) < 0)), .slice ad18 n18 c18], .int .i64 (pe (tx (rawZ neg1 x1 10)))]), (17, .string (bstr (tx (rawZ neg1 x1 10)))), (5, .string (bstr (tx (rawZ neg1 x1 10)))), (15, .string (bstr (tx (rawZ neg1 x1 10)))), (14, .agg #[.bool b8, .slice ad8 n8 c8]), (4, .pointer (some ⟨g4, 0, none⟩)), (3, .pointer (some ⟨g3, 0, none⟩)), (13, .agg #[.bool b9, .slice ad9 n9 c9]), (11, .agg #[.bool b8, .slice ad8 n8 c8]), (9, .bool false), (8, .bool true), (1, .pointer (some ⟨g1, 0, none⟩)), (0, .agg #[.bool neg1, .slice a1 n1 c1])]) hF (r_assign (hF.at 0 rfl)) rfl rfl rfl rfl fun a hF => ?_
  refine E.nil ?_
  refine wp_ret ?_
  refine bodyPost_ret (res_tmp Try.results4 (hF.at 0 rfl)) hF.dfr ?_
  exact ⟨rfl, bel⟩

end Go.Proofs.Ythoiocjbjfhgpaa
