/- CutTexts. -/
import Derived.Test.YthoiocjbjfhgpaaGreatCuN
import Derived.Test.YthoiocjbjfhgpaaGreatCuD
namespace Go.Proofs.YthoiocjbjfhgpaaGreat
open Go.RowKit
set_option maxRecDepth 100000
set_option linter.unusedVariables false

set_option maxHeartbeats 8000000 in
theorem cutTexts_walk (nega1 : Bool) (aa1 : Option Addr) (na1 ca1 : Nat) (xa1 : List Nat) (negb1 : Bool) (ab1 : Option Addr) (nb1 cb1 : Nat) (xb1 : List Nat) (w : World) (hM : MLen w) (ia1 : InX w aa1 na1 ca1 xa1) (ib1 : InX w ab1 nb1 cb1 xb1) :
    Calls Tryz.prog 7 #[.agg #[.bool nega1, .slice aa1 na1 ca1, .bool negb1, .slice ab1 nb1 cb1]] w (ValPost w (.bool true)) := by
  have oka1 := ia1.ok
  have okb1 := ib1.ok
  have hrl := own5_lim nega1 negb1 oka1 okb1 5 (by decide)
  have hce := ce_cxl hrl (by decide)
  have hcl := cx_len hrl
  have bel : Below w.heap.size w w := Below.refl _ _
  refine E.enter (nt := 41) (L := [(0, .agg #[.bool nega1, .slice aa1 na1 ca1, .bool negb1, .slice ab1 nb1 cb1])]) Tryz.func7 rfl rfl rfl (args_cons (i := 0) rfl args_nil) ?_
  intro a hF
  refine wp_seq ?_
  refine E.seq ?_
  obtain ⟨g1, w1, ge1, hr, bb, o1⟩ := own_box (P := Tryz.prog) (w := w) (cs := [.bool nega1, .slice aa1 na1 ca1, .bool negb1, .slice ab1 nb1 cb1]) (v := .agg #[.bool nega1, .slice aa1 na1 ca1, .bool negb1, .slice ab1 nb1 cb1]) 26 rfl (niB (niS (niB (niS ni0))))
  replace ge1 : w.heap.size ≤ g1 := by rw [← ge1]; exact bel.size
  refine E.opv hF (r_box (hF.at 0 rfl) hr) rfl rfl rfl rfl fun a hF => ?_
  clear hr
  replace ia1 := ia1.below bb
  replace ib1 := ib1.below bb
  replace bel := below_to bel bb
  clear bb
  refine E.opv hF (r_assign ev_c) rfl rfl rfl rfl fun a hF => ?_
  refine E.nil ?_
  refine wp_seq ?_
  refine wp_seq ?_
  refine E.seq ?_
  refine E.call hF (r_call Tryz.func9 en9.1 en9.2 map0) (awake6_any _ (hM.below bel)) rfl rfl rfl rfl ?_
  rintro e w2 ⟨rfl, bb⟩
  refine ⟨_, rfl, ?_⟩
  intro a hF
  replace ia1 := ia1.below bb
  replace ib1 := ib1.below bb
  replace o1 := o1.below bb
  replace bel := below_to bel bb
  clear bb
  refine E.opv hF (r_un (hF.at 0 rfl) (bn_not _ false rfl)) rfl rfl rfl rfl fun a hF => ?_
  refine E.nil ?_
  refine wp_cond_false (hF.at 0 rfl) ?_
  refine wp_skip ?_
  refine E.norm ?_
  refine wp_seq ?_
  refine E.drawn 6 mixed hF [10, 11, 12, 13, 3, 4] [(fun _ v => v = .agg #[.bool nega1, .slice aa1 na1 ca1, .bool negb1, .slice ab1 nb1 cb1]), (fun w v => Rq w v (((rawZ nega1 xa1 5 : Int) : Rat) / ((rawZ negb1 xb1 5 : Int) : Rat))), (fun _ v => v = .agg #[.bool nega1, .slice aa1 na1 ca1, .bool negb1, .slice ab1 nb1 cb1]), (fun w v => Rr w v (((rawZ nega1 xa1 5 : Int) : Rat) / ((rawZ negb1 xb1 5 : Int) : Rat)) (5)), (fun w v => ∃ g, v = .pointer (some ⟨g, 0, none⟩) ∧ w2.heap.size ≤ g ∧ Own w g [.bool false, .slice none 0 0, .slice none 0 0]), (fun w v => ∃ g, v = .pointer (some ⟨g, 0, none⟩) ∧ w2.heap.size ≤ g ∧ Own w g [.bool false, .slice none 0 0, .slice none 0 0])] [4, 5] (by decide +kernel) (by decide +kernel) rfl rfl rfl ⟨(Mb.eq _), (fun _ _ _ h hb => h.below hb), (Mb.eq _), (fun _ _ _ h hb => h.below hb), (fun _ _ _ ⟨g, e, l, o⟩ hb => ⟨g, e, l, o.below hb⟩), (fun _ _ _ ⟨g, e, l, o⟩ hb => ⟨g, e, l, o.below hb⟩), trivial⟩ ⟨fun _ _ ⟨g, e, _, o⟩ => ⟨g, e, o.lt⟩, ⟨fun _ _ ⟨g, e, _, o⟩ => ⟨g, e, o.lt⟩, trivial⟩⟩ ⟨?_, ?_, ?_, ?_, ?_, ?_, trivial⟩ ?_
  · intro a' w' hF' hb hd
    exact if_does (wanted_free rfl) (Does.vals (r_load (hF'.at 3 rfl) (ld_Raw5 (vs := [.bool nega1, .slice aa1 na1 ca1, .bool negb1, .slice ab1 nb1 cb1]) (o1.below hb) rfl rfl)) ⟨rfl, Below.refl _ _, (fun h => absurd h (by decide))⟩)
  · intro a' w' hF' hb hd
    have e10 : a'.tmps.getD 10 undef = .agg #[.bool nega1, .slice aa1 na1 ca1, .bool negb1, .slice ab1 nb1 cb1] := hd _ 10 (Array.mem_of_getElem? (i := 0) rfl) rfl rfl
    refine if_does (wanted_free rfl) (Does.calls (r_call Tryz.func10 en10.1 en10.2 (map2 e10 ev_c)) (Own5_any nega1 aa1 na1 ca1 xa1 negb1 ab1 nb1 cb1 xb1 5 _ (ia1.below hb) (ib1.below hb) (by omega)) ?_)
    rintro e w'' ⟨v', rfl, h', bb⟩
    exact ⟨_, rfl, h', bb, (fun h => absurd h (by decide))⟩
  · intro a' w' hF' hb hd
    exact if_does (wanted_free rfl) (Does.vals (r_load (hF'.at 3 rfl) (ld_Raw5 (vs := [.bool nega1, .slice aa1 na1 ca1, .bool negb1, .slice ab1 nb1 cb1]) (o1.below hb) rfl rfl)) ⟨rfl, Below.refl _ _, (fun h => absurd h (by decide))⟩)
  · intro a' w' hF' hb hd
    have e12 : a'.tmps.getD 12 undef = .agg #[.bool nega1, .slice aa1 na1 ca1, .bool negb1, .slice ab1 nb1 cb1] := hd _ 12 (Array.mem_of_getElem? (i := 0) rfl) rfl rfl
    refine if_does (wanted_free rfl) (Does.calls (r_call Tryz.func11 en11.1 en11.2 (map2 e12 ev_c)) (Told5_any nega1 aa1 na1 ca1 xa1 negb1 ab1 nb1 cb1 xb1 5 _ (ia1.below hb) (ib1.below hb) (by omega) (by omega)) ?_)
    rintro e w'' ⟨v', rfl, h', bb⟩
    exact ⟨_, rfl, h', bb, (fun h => absurd h (by decide))⟩
  · intro a' w' hF' hb hd
    obtain ⟨g, w2, ge, hr, bb, on⟩ := own_alloc (P := Tryz.prog) (w := w') (cs := [.bool false, .slice none 0 0, .slice none 0 0]) 32 ze_Rat rfl (niB (niS (niS ni0)))
    subst ge
    exact if_does (wanted_free rfl) (Does.vals (r_alloc hr) ⟨⟨_, rfl, hb.size, on⟩, bb, fun _ => rfl⟩)
  · intro a' w' hF' hb hd
    obtain ⟨g, w2, ge, hr, bb, on⟩ := own_alloc (P := Tryz.prog) (w := w') (cs := [.bool false, .slice none 0 0, .slice none 0 0]) 39 ze_RRat rfl (niB (niS (niS ni0)))
    subst ge
    exact if_does (wanted_free rfl) (Does.vals (r_alloc hr) ⟨⟨_, rfl, hb.size, on⟩, bb, fun _ => rfl⟩)
  intro a w3 hF bb hall hne
  obtain ⟨vv4, e11, hh5⟩ : ∃ v, a.tmps.getD 11 undef = v ∧ Rq w3 v (((rawZ nega1 xa1 5 : Int) : Rat) / ((rawZ negb1 xb1 5 : Int) : Rat)) := ⟨_, rfl, hall 1 11 rfl⟩
  obtain ⟨vv6, e13, hh7⟩ : ∃ v, a.tmps.getD 13 undef = v ∧ Rr w3 v (((rawZ nega1 xa1 5 : Int) : Rat) / ((rawZ negb1 xb1 5 : Int) : Rat)) (5) := ⟨_, rfl, hall 3 13 rfl⟩
  obtain ⟨g3, e3, ge3, o3⟩ : ∃ g, a.tmps.getD 3 undef = .pointer (some ⟨g, 0, none⟩) ∧ w2.heap.size ≤ g ∧ Own w3 g [.bool false, .slice none 0 0, .slice none 0 0] := hall 4 3 rfl
  obtain ⟨g4, e4, ge4, o4⟩ : ∃ g, a.tmps.getD 4 undef = .pointer (some ⟨g, 0, none⟩) ∧ w2.heap.size ≤ g ∧ Own w3 g [.bool false, .slice none 0 0, .slice none 0 0] := hall 5 4 rfl
  have ne3_4 : g3 ≠ g4 := by intro e; exact hne 4 5 3 4 rfl rfl (by decide) rfl rfl (by rw [e3, e4, e])
  replace ge3 : w.heap.size ≤ g3 := Nat.le_trans bel.size ge3
  replace ge4 : w.heap.size ≤ g4 := Nat.le_trans bel.size ge4
  clear hall hne
  replace bel := below_to bel bb
  clear bb
  obtain ⟨b8, ad8, n8, c8, ae8, m8, d8, rfl, hn8, hd8⟩ := Rq.shape hh5
  have hf9 := Wc.abs hn8
  replace hF := hF.add e11
  clear e11
  obtain ⟨b10, ad10, n10, c10, ae10, m10, d10, z10, D10, rfl, hn10, hd10, hD10, hq10, lz10, lD10⟩ := Rr.shape hh7
  have ha10 := hn10.abs
  replace hF := hF.add e13
  clear e13
  replace hF := hF.add e3
  clear e3
  replace hF := hF.add e4
  clear e4
  obtain ⟨w11, hr, tu, on⟩ := st_Rat (vs := [.bool b8, .slice ad8 n8 c8, .slice ae8 m8 d8]) o3 rfl rfl (ocB (ocS (ocS oc0))) (niB (niS (niS ni0))) (o := 0) rfl
  have kp := tu.keep o3
  refine E.st hF (r_store (hF.at 1 rfl) (hF.at 3 rfl) (hr _ rfl)) rfl rfl fun a hF => ?_
  clear hr
  replace hh7 := hh7.keep kp
  replace hn10 := hn10.keep kp
  replace ha10 := ha10.keep kp
  replace hd10 := hd10.keep kp
  replace hh5 := hh5.keep kp
  replace hn8 := hn8.keep kp
  replace hf9 := hf9.keep kp
  replace hd8 := hd8.keep kp
  replace o4 := tu.own o4 (Ne.symm ne3_4)
  replace bel := tu.below bel ge3
  clear tu kp
  replace o3 := on
  clear on
  obtain ⟨w12, hr, tu, on⟩ := st_RRat (vs := [.bool b10, .slice ad10 n10 c10, .slice ae10 m10 d10]) o4 rfl rfl (ocB (ocS (ocS oc0))) (niB (niS (niS ni0))) (o := 0) rfl
  have kp := tu.keep o4
  refine E.st hF (r_store (hF.at 0 rfl) (hF.at 2 rfl) (hr _ rfl)) rfl rfl fun a hF => ?_
  clear hr
  replace hf9 := hf9.keep kp
  replace hd8 := hd8.keep kp
  replace hh5 := hh5.keep kp
  replace hn8 := hn8.keep kp
  replace hh7 := hh7.keep kp
  replace hn10 := hn10.keep kp
  replace ha10 := ha10.keep kp
  replace hd10 := hd10.keep kp
  replace o3 := tu.own o3 ne3_4
  replace bel := tu.below bel ge4
  clear tu kp
  replace o4 := on
  clear on
  refine E.nil ?_
  refine wp_seq ?_
  refine E.seq ?_
  refine E.opv hF (r_load (hF.at 1 rfl) (ld_Rat (vs := [.bool b8, .slice ad8 n8 c8, .slice ae8 m8 d8]) o3 rfl rfl)) rfl rfl rfl rfl fun a hF => ?_
  refine E.call hF (r_call Tryz.func41 en41.1 en41.2 (map1 (hF.at 0 rfl))) (cText_any _ (((rawZ nega1 xa1 5 : Int) : Rat) / ((rawZ negb1 xb1 5 : Int) : Rat)) 5 _ hh5 (own5_lim nega1 negb1 oka1 okb1 5 (by decide)) (by omega)) rfl rfl rfl rfl ?_
  rintro e w13 ⟨rfl, bb⟩
  refine ⟨_, rfl, ?_⟩
  intro a hF
  replace hf9 := hf9.below bb
  replace hd8 := hd8.below bb
  replace hh5 := hh5.below bb
  replace hn8 := hn8.below bb
  replace ha10 := ha10.below bb
  replace hd10 := hd10.below bb
  replace hh7 := hh7.below bb
  replace hn10 := hn10.below bb
  replace o3 := o3.below bb
  replace o4 := o4.below bb
  replace bel := below_to bel bb
  clear bb
  refine E.opv hF (r_assign (hF.at 0 rfl)) rfl rfl rfl rfl fun a hF => ?_
  refine E.nil ?_
  refine wp_seq ?_
  refine E.seq ?_
  refine E.opv hF (r_move (hF.at 0 rfl)) rfl rfl rfl rfl fun a hF => ?_
  refine E.call hF (r_call Tryz.func42 en42.1 en42.2 (map1 (hF.at 0 rfl))) (cparse_any (cx (((rawZ nega1 xa1 5 : Int) : Rat) / ((rawZ negb1 xb1 5 : Int) : Rat))) _ (hM.below bel) (cx_okb _) (by first | omega | decide)) rfl rfl rfl rfl ?_
  rintro e w14 ⟨vv15, rfl, hh16, bb⟩
  refine ⟨_, rfl, ?_⟩
  intro a hF
  replace hf9 := hf9.below bb
  replace hd8 := hd8.below bb
  replace hh5 := hh5.below bb
  replace hn8 := hn8.below bb
  replace ha10 := ha10.below bb
  replace hd10 := hd10.below bb
  replace hh7 := hh7.below bb
  replace hn10 := hn10.below bb
  replace o3 := o3.below bb
  replace o4 := o4.below bb
  replace bel := below_to bel bb
  clear bb
  obtain ⟨b17, ad17, n17, c17, ae17, m17, d17, rfl, hn17, hd17⟩ := Rq.shape hh16
  have hf18 := Wc.abs hn17
  refine E.opv hF (r_move (hF.at 0 rfl)) rfl rfl rfl rfl fun a hF => ?_
  refine E.opv hF (r_extract (v := .agg #[.bool b17, .slice ad17 n17 c17, .slice ae17 m17 d17]) (hF.at 0 rfl) rfl) rfl rfl rfl rfl fun a hF => ?_
  refine E.opv hF (r_extract (v := .int .i64 (ce (cx (((rawZ nega1 xa1 5 : Int) : Rat) / ((rawZ negb1 xb1 5 : Int) : Rat))))) (hF.at 1 rfl) rfl) rfl rfl rfl rfl fun a hF => ?_
  obtain ⟨g6, w19, ge6, hr, bb, o6⟩ := own_alloc (P := Tryz.prog) (w := w14) (cs := [.bool false, .slice none 0 0, .slice none 0 0]) 32 ze_Rat rfl (niB (niS (niS ni0)))
  have ne3_6 : g3 ≠ g6 := by rw [← ge6]; exact o3.ne_new
  have ne4_6 : g4 ≠ g6 := by rw [← ge6]; exact o4.ne_new
  replace ge6 : w.heap.size ≤ g6 := by rw [← ge6]; exact bel.size
  refine E.opv hF (r_alloc hr) rfl rfl rfl rfl fun a hF => ?_
  clear hr
  replace hh16 := hh16.below bb
  replace hn17 := hn17.below bb
  replace hf18 := hf18.below bb
  replace hd17 := hd17.below bb
  replace hf9 := hf9.below bb
  replace hd8 := hd8.below bb
  replace hh5 := hh5.below bb
  replace hn8 := hn8.below bb
  replace ha10 := ha10.below bb
  replace hd10 := hd10.below bb
  replace hh7 := hh7.below bb
  replace hn10 := hn10.below bb
  replace o3 := o3.below bb
  replace o4 := o4.below bb
  replace bel := below_to bel bb
  clear bb
  obtain ⟨w20, hr, tu, on⟩ := st_Rat (vs := [.bool b17, .slice ad17 n17 c17, .slice ae17 m17 d17]) o6 rfl rfl (ocB (ocS (ocS oc0))) (niB (niS (niS ni0))) (o := 0) rfl
  have kp := tu.keep o6
  refine E.st hF (r_store (hF.at 0 rfl) (hF.at 2 rfl) (hr _ rfl)) rfl rfl fun a hF => ?_
  clear hr
  replace hf9 := hf9.keep kp
  replace hd8 := hd8.keep kp
  replace hh5 := hh5.keep kp
  replace hn8 := hn8.keep kp
  replace ha10 := ha10.keep kp
  replace hd10 := hd10.keep kp
  replace hh7 := hh7.keep kp
  replace hn10 := hn10.keep kp
  replace hh16 := hh16.keep kp
  replace hn17 := hn17.keep kp
  replace hf18 := hf18.keep kp
  replace hd17 := hd17.keep kp
  replace o3 := tu.own o3 ne3_6
  replace o4 := tu.own o4 ne4_6
  replace bel := tu.below bel ge6
  clear tu kp
  replace o6 := on
  clear on
  refine E.opv hF (r_assign (hF.at 1 rfl)) rfl rfl rfl rfl fun a hF => ?_
  refine E.nil ?_
  refine wp_seq ?_
  refine E.drawn 20 mixed hF [21, 22, 23, 24, 25, 26, 27, 28, 29, 30, 31, 32, 33, 34, 35, 36, 37, 38, 39, 40] [(fun _ v => v = .string (bstr (cx (((rawZ nega1 xa1 5 : Int) : Rat) / ((rawZ negb1 xb1 5 : Int) : Rat))))), (fun _ v => v = .agg #[.bool b10, .slice ad10 n10 c10, .slice ae10 m10 d10]), (fun _ v => v = .string (bstr (cx (((rawZ nega1 xa1 5 : Int) : Rat) / ((rawZ negb1 xb1 5 : Int) : Rat))))), (fun _ v => v = .bool true), (fun _ v => v = .bool true), (fun _ v => v = .int .i64 (ce (cx (((rawZ nega1 xa1 5 : Int) : Rat) / ((rawZ negb1 xb1 5 : Int) : Rat))))), (fun _ v => v = .bool true), (fun _ v => v = .bool true), (fun _ v => v = .bool true), (fun _ v => v = .agg #[.bool b17, .slice ad17 n17 c17, .slice ae17 m17 d17]), (fun _ v => v = .agg #[.bool b8, .slice ad8 n8 c8, .slice ae8 m8 d8]), (fun _ v => v = .bool true), (fun _ v => v = .bool true), (fun _ v => v = .bool true), (fun _ v => v = .agg #[.bool b8, .slice ad8 n8 c8, .slice ae8 m8 d8]), (fun _ v => v = .int .i64 (max ((dl 2 (Int.natAbs (Rat.num (((rawZ nega1 xa1 5 : Int) : Rat) / ((rawZ negb1 xb1 5 : Int) : Rat)))) : Nat) : Int) ((dl 2 (Rat.den (((rawZ nega1 xa1 5 : Int) : Rat) / ((rawZ negb1 xb1 5 : Int) : Rat))) : Nat) : Int))), (fun _ v => v = .agg #[.bool b10, .slice ad10 n10 c10, .slice ae10 m10 d10]), (fun _ v => v = .int .i64 (max ((dl 2 (Int.natAbs (Rat.num (((rawZ nega1 xa1 5 : Int) : Rat) / ((rawZ negb1 xb1 5 : Int) : Rat)))) : Nat) : Int) ((dl 2 (Rat.den (((rawZ nega1 xa1 5 : Int) : Rat) / ((rawZ negb1 xb1 5 : Int) : Rat))) : Nat) : Int))), (fun _ v => v = .bool true), (fun _ v => v = .bool true)] [] (by decide +kernel) (by decide +kernel) rfl rfl rfl ⟨(Mb.eq _), (Mb.eq _), (Mb.eq _), (Mb.eq _), (Mb.eq _), (Mb.eq _), (Mb.eq _), (Mb.eq _), (Mb.eq _), (Mb.eq _), (Mb.eq _), (Mb.eq _), (Mb.eq _), (Mb.eq _), (Mb.eq _), (Mb.eq _), (Mb.eq _), (Mb.eq _), (Mb.eq _), (Mb.eq _), trivial⟩ trivial ⟨?_, ?_, ?_, ?_, ?_, ?_, ?_, ?_, ?_, ?_, ?_, ?_, ?_, ?_, ?_, ?_, ?_, ?_, ?_, ?_, trivial⟩ ?_
  · intro a' w' hF' hb hd
    exact if_does (wanted_free rfl) (Does.vals (r_move (hF'.at 7 rfl)) ⟨rfl, Below.refl _ _, (fun h => absurd h (by decide))⟩)
  · intro a' w' hF' hb hd
    exact if_does (wanted_free rfl) (Does.vals (r_load (hF'.at 10 rfl) (ld_RRat (vs := [.bool b10, .slice ad10 n10 c10, .slice ae10 m10 d10]) (o4.below hb) rfl rfl)) ⟨rfl, Below.refl _ _, (fun h => absurd h (by decide))⟩)
  · intro a' w' hF' hb hd
    have e22 : a'.tmps.getD 22 undef = .agg #[.bool b10, .slice ad10 n10 c10, .slice ae10 m10 d10] := hd _ 22 (Array.mem_of_getElem? (i := 0) rfl) rfl rfl
    refine if_does (wanted_free rfl) (Does.calls (r_call Tryz.func43 en43.1 en43.2 (map1 e22)) (dText_any _ (((rawZ nega1 xa1 5 : Int) : Rat) / ((rawZ negb1 xb1 5 : Int) : Rat)) 5 _ (hh7.below hb) (by omega)) ?_)
    rintro e w'' ⟨rfl, bb⟩
    exact ⟨_, rfl, rfl, bb, (fun h => absurd h (by decide))⟩
  · intro a' w' hF' hb hd
    have e21 : a'.tmps.getD 21 undef = .string (bstr (cx (((rawZ nega1 xa1 5 : Int) : Rat) / ((rawZ negb1 xb1 5 : Int) : Rat)))) := hd _ 21 (Array.mem_of_getElem? (i := 0) rfl) rfl rfl
    have e23 : a'.tmps.getD 23 undef = .string (bstr (cx (((rawZ nega1 xa1 5 : Int) : Rat) / ((rawZ negb1 xb1 5 : Int) : Rat)))) := hd _ 23 (Array.mem_of_getElem? (i := 1) rfl) rfl rfl
    exact if_does (wanted_free rfl) (Does.vals (r_bin e21 e23 eg_str (sb_eq (xs := cx (((rawZ nega1 xa1 5 : Int) : Rat) / ((rawZ negb1 xb1 5 : Int) : Rat))) (ys := cx (((rawZ nega1 xa1 5 : Int) : Rat) / ((rawZ negb1 xb1 5 : Int) : Rat))) (streq_t rfl))) ⟨rfl, Below.refl _ _, (fun h => absurd h (by decide))⟩)
  · intro a' w' hF' hb hd
    have e24 : a'.tmps.getD 24 undef = .bool true := hd _ 24 (Array.mem_of_getElem? (i := 0) rfl) rfl rfl
    exact if_does (wanted_free rfl) (Does.vals (r_move e24) ⟨rfl, Below.refl _ _, (fun h => absurd h (by decide))⟩)
  · intro a' w' hF' hb hd
    have e25 : a'.tmps.getD 25 undef = .bool true := hd _ 25 (Array.mem_of_getElem? (i := 0) rfl) rfl rfl
    exact if_does (wanted_by rfl rfl e25 rfl) (Does.vals (r_move (hF'.at 0 rfl)) ⟨rfl, Below.refl _ _, (fun h => absurd h (by decide))⟩)
  · intro a' w' hF' hb hd
    have e25 : a'.tmps.getD 25 undef = .bool true := hd _ 25 (Array.mem_of_getElem? (i := 1) rfl) rfl rfl
    have e26 : a'.tmps.getD 26 undef = .int .i64 (ce (cx (((rawZ nega1 xa1 5 : Int) : Rat) / ((rawZ negb1 xb1 5 : Int) : Rat)))) := hd _ 26 (Array.mem_of_getElem? (i := 0) rfl) rfl rfl
    exact if_does (wanted_by rfl rfl e25 rfl) (Does.vals (r_bin e26 ev_c eg_scalar (bi_int (ic_eql (c := true) (dec_tt hce.1)) (by simp))) ⟨rfl, Below.refl _ _, (fun h => absurd h (by decide))⟩)
  · intro a' w' hF' hb hd
    have e25 : a'.tmps.getD 25 undef = .bool true := hd _ 25 (Array.mem_of_getElem? (i := 0) rfl) rfl rfl
    have e27 : a'.tmps.getD 27 undef = .bool true := hd _ 27 (Array.mem_of_getElem? (i := 1) rfl) rfl rfl
    exact if_does (wanted_free rfl) (Does.vals (r_pick_t e25 e27) ⟨rfl, Below.refl _ _, (fun h => absurd h (by decide))⟩)
  · intro a' w' hF' hb hd
    have e28 : a'.tmps.getD 28 undef = .bool true := hd _ 28 (Array.mem_of_getElem? (i := 0) rfl) rfl rfl
    exact if_does (wanted_free rfl) (Does.vals (r_move e28) ⟨rfl, Below.refl _ _, (fun h => absurd h (by decide))⟩)
  · intro a' w' hF' hb hd
    have e29 : a'.tmps.getD 29 undef = .bool true := hd _ 29 (Array.mem_of_getElem? (i := 0) rfl) rfl rfl
    exact if_does (wanted_by rfl rfl e29 rfl) (Does.vals (r_load (hF'.at 1 rfl) (ld_Rat (vs := [.bool b17, .slice ad17 n17 c17, .slice ae17 m17 d17]) (o6.below hb) rfl rfl)) ⟨rfl, Below.refl _ _, (fun h => absurd h (by decide))⟩)
  · intro a' w' hF' hb hd
    have e29 : a'.tmps.getD 29 undef = .bool true := hd _ 29 (Array.mem_of_getElem? (i := 0) rfl) rfl rfl
    exact if_does (wanted_by rfl rfl e29 rfl) (Does.vals (r_load (hF'.at 11 rfl) (ld_Rat (vs := [.bool b8, .slice ad8 n8 c8, .slice ae8 m8 d8]) (o3.below hb) rfl rfl)) ⟨rfl, Below.refl _ _, (fun h => absurd h (by decide))⟩)
  · intro a' w' hF' hb hd
    have e29 : a'.tmps.getD 29 undef = .bool true := hd _ 29 (Array.mem_of_getElem? (i := 2) rfl) rfl rfl
    have e30 : a'.tmps.getD 30 undef = .agg #[.bool b17, .slice ad17 n17 c17, .slice ae17 m17 d17] := hd _ 30 (Array.mem_of_getElem? (i := 0) rfl) rfl rfl
    have e31 : a'.tmps.getD 31 undef = .agg #[.bool b8, .slice ad8 n8 c8, .slice ae8 m8 d8] := hd _ 31 (Array.mem_of_getElem? (i := 1) rfl) rfl rfl
    refine if_does (wanted_by rfl rfl e29 rfl) (Does.calls (r_call Tryz.func26 en26.1 en26.2 (map2 e30 e31)) (rSame_true _ _ (cz (cx (((rawZ nega1 xa1 5 : Int) : Rat) / ((rawZ negb1 xb1 5 : Int) : Rat)))) (((rawZ nega1 xa1 5 : Int) : Rat) / ((rawZ negb1 xb1 5 : Int) : Rat)) _ (hh16.below hb) (hh5.below hb) hce.2) ?_)
    rintro e w'' ⟨rfl, bb⟩
    exact ⟨_, rfl, rfl, bb, (fun h => absurd h (by decide))⟩
  · intro a' w' hF' hb hd
    have e29 : a'.tmps.getD 29 undef = .bool true := hd _ 29 (Array.mem_of_getElem? (i := 0) rfl) rfl rfl
    have e32 : a'.tmps.getD 32 undef = .bool true := hd _ 32 (Array.mem_of_getElem? (i := 1) rfl) rfl rfl
    exact if_does (wanted_free rfl) (Does.vals (r_pick_t e29 e32) ⟨rfl, Below.refl _ _, (fun h => absurd h (by decide))⟩)
  · intro a' w' hF' hb hd
    have e33 : a'.tmps.getD 33 undef = .bool true := hd _ 33 (Array.mem_of_getElem? (i := 0) rfl) rfl rfl
    exact if_does (wanted_free rfl) (Does.vals (r_move e33) ⟨rfl, Below.refl _ _, (fun h => absurd h (by decide))⟩)
  · intro a' w' hF' hb hd
    have e34 : a'.tmps.getD 34 undef = .bool true := hd _ 34 (Array.mem_of_getElem? (i := 0) rfl) rfl rfl
    exact if_does (wanted_by rfl rfl e34 rfl) (Does.vals (r_load (hF'.at 11 rfl) (ld_Rat (vs := [.bool b8, .slice ad8 n8 c8, .slice ae8 m8 d8]) (o3.below hb) rfl rfl)) ⟨rfl, Below.refl _ _, (fun h => absurd h (by decide))⟩)
  · intro a' w' hF' hb hd
    have e34 : a'.tmps.getD 34 undef = .bool true := hd _ 34 (Array.mem_of_getElem? (i := 1) rfl) rfl rfl
    have e35 : a'.tmps.getD 35 undef = .agg #[.bool b8, .slice ad8 n8 c8, .slice ae8 m8 d8] := hd _ 35 (Array.mem_of_getElem? (i := 0) rfl) rfl rfl
    refine if_does (wanted_by rfl rfl e34 rfl) (Does.calls (r_call Tryz.func44 en44.1 en44.2 (map1 e35)) (cBits_any _ (((rawZ nega1 xa1 5 : Int) : Rat) / ((rawZ negb1 xb1 5 : Int) : Rat)) _ (hh5.below hb)) ?_)
    rintro e w'' ⟨rfl, bb⟩
    exact ⟨_, rfl, rfl, bb, (fun h => absurd h (by decide))⟩
  · intro a' w' hF' hb hd
    have e34 : a'.tmps.getD 34 undef = .bool true := hd _ 34 (Array.mem_of_getElem? (i := 0) rfl) rfl rfl
    exact if_does (wanted_by rfl rfl e34 rfl) (Does.vals (r_load (hF'.at 10 rfl) (ld_RRat (vs := [.bool b10, .slice ad10 n10 c10, .slice ae10 m10 d10]) (o4.below hb) rfl rfl)) ⟨rfl, Below.refl _ _, (fun h => absurd h (by decide))⟩)
  · intro a' w' hF' hb hd
    have e34 : a'.tmps.getD 34 undef = .bool true := hd _ 34 (Array.mem_of_getElem? (i := 2) rfl) rfl rfl
    have e37 : a'.tmps.getD 37 undef = .agg #[.bool b10, .slice ad10 n10 c10, .slice ae10 m10 d10] := hd _ 37 (Array.mem_of_getElem? (i := 0) rfl) rfl rfl
    refine if_does (wanted_by rfl rfl e34 rfl) (Does.calls (r_call Tryz.func45 en45.1 en45.2 (map1 e37)) (dBits_any _ (((rawZ nega1 xa1 5 : Int) : Rat) / ((rawZ negb1 xb1 5 : Int) : Rat)) 5 _ (hh7.below hb) (by omega)) ?_)
    rintro e w'' ⟨rfl, bb⟩
    exact ⟨_, rfl, rfl, bb, (fun h => absurd h (by decide))⟩
  · intro a' w' hF' hb hd
    have e34 : a'.tmps.getD 34 undef = .bool true := hd _ 34 (Array.mem_of_getElem? (i := 2) rfl) rfl rfl
    have e36 : a'.tmps.getD 36 undef = .int .i64 (max ((dl 2 (Int.natAbs (Rat.num (((rawZ nega1 xa1 5 : Int) : Rat) / ((rawZ negb1 xb1 5 : Int) : Rat)))) : Nat) : Int) ((dl 2 (Rat.den (((rawZ nega1 xa1 5 : Int) : Rat) / ((rawZ negb1 xb1 5 : Int) : Rat))) : Nat) : Int)) := hd _ 36 (Array.mem_of_getElem? (i := 0) rfl) rfl rfl
    have e38 : a'.tmps.getD 38 undef = .int .i64 (max ((dl 2 (Int.natAbs (Rat.num (((rawZ nega1 xa1 5 : Int) : Rat) / ((rawZ negb1 xb1 5 : Int) : Rat)))) : Nat) : Int) ((dl 2 (Rat.den (((rawZ nega1 xa1 5 : Int) : Rat) / ((rawZ negb1 xb1 5 : Int) : Rat))) : Nat) : Int)) := hd _ 38 (Array.mem_of_getElem? (i := 1) rfl) rfl rfl
    exact if_does (wanted_by rfl rfl e34 rfl) (Does.vals (r_bin e36 e38 eg_scalar (bi_int (ic_eql (c := true) (by simp)) (by simp))) ⟨rfl, Below.refl _ _, (fun h => absurd h (by decide))⟩)
  · intro a' w' hF' hb hd
    have e34 : a'.tmps.getD 34 undef = .bool true := hd _ 34 (Array.mem_of_getElem? (i := 0) rfl) rfl rfl
    have e39 : a'.tmps.getD 39 undef = .bool true := hd _ 39 (Array.mem_of_getElem? (i := 1) rfl) rfl rfl
    exact if_does (wanted_free rfl) (Does.vals (r_pick_t e34 e39) ⟨rfl, Below.refl _ _, (fun h => absurd h (by decide))⟩)
  intro a w21 hF bb hall hne
  have e40 : a.tmps.getD 40 undef = .bool true := hall 19 40 rfl
  clear hall hne
  replace bel := below_to bel bb
  clear bb
  replace hF := hF.add e40
  clear e40
  refine E.opset (L' := [(2, .bool true), (40, .bool true), (7, .int .i64 (ce (cx (((rawZ nega1 xa1 5 : Int) : Rat) / ((rawZ negb1 xb1 5 : Int) : Rat))))), (6, .pointer (some ⟨g6, 0, none⟩)), (20, .int .i64 (ce (cx (((rawZ nega1 xa1 5 : Int) : Rat) / ((rawZ negb1 xb1 5 : Int) : Rat))))), (19, .agg #[.bool b17, .slice ad17 n17 c17, .slice ae17 m17 d17]), (16, .tuple #[.agg #[.bool b17, .slice ad17 n17 c17, .slice ae17 m17 d17], .int .i64 (ce (cx (((rawZ nega1 xa1 5 : Int) : Rat) / ((rawZ negb1 xb1 5 : Int) : Rat))))]), (18, .tuple #[.agg #[.bool b17, .slice ad17 n17 c17, .slice ae17 m17 d17], .int .i64 (ce (cx (((rawZ nega1 xa1 5 : Int) : Rat) / ((rawZ negb1 xb1 5 : Int) : Rat))))]), (17, .string (bstr (cx (((rawZ nega1 xa1 5 : Int) : Rat) / ((rawZ negb1 xb1 5 : Int) : Rat))))), (5, .string (bstr (cx (((rawZ nega1 xa1 5 : Int) : Rat) / ((rawZ negb1 xb1 5 : Int) : Rat))))), (15, .string (bstr (cx (((rawZ nega1 xa1 5 : Int) : Rat) / ((rawZ negb1 xb1 5 : Int) : Rat))))), (14, .agg #[.bool b8, .slice ad8 n8 c8, .slice ae8 m8 d8]), (4, .pointer (some ⟨g4, 0, none⟩)), (3, .pointer (some ⟨g3, 0, none⟩)), (13, .agg #[.bool b10, .slice ad10 n10 c10, .slice ae10 m10 d10]), (11, .agg #[.bool b8, .slice ad8 n8 c8, .slice ae8 m8 d8]), (9, .bool false), (8, .bool true), (1, .pointer (some ⟨g1, 0, none⟩)), (0, .agg #[.bool nega1, .slice aa1 na1 ca1, .bool negb1, .slice ab1 nb1 cb1])]) hF (r_assign (hF.at 0 rfl)) rfl rfl rfl rfl fun a hF => ?_
  refine E.nil ?_
  refine wp_ret ?_
  refine bodyPost_ret (res_tmp Tryz.results7 (hF.at 0 rfl)) hF.dfr ?_
  exact ⟨rfl, bel⟩

end Go.Proofs.YthoiocjbjfhgpaaGreat
