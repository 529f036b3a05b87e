/- The walk of RatMakes. -/
import Derived.Test.YtjgafncpahbjkaaLwA
namespace Go.Proofs.Ytjgafncpahbjkaa
open Go.RowKit
set_option maxRecDepth 100000
set_option linter.unusedVariables false

theorem rSame_true (v1 v2 : Value) (q1 q2 : Rat) (w : World) (h1 : Rq w v1 q1) (h2 : Rq w v2 q2) (h : q1 = q2) : Calls Try.prog 70 #[v1, v2] w (BoolPost w true) := by
  have := rSame_any v1 v2 q1 q2 w h1 h2
  rw [decide_eq_true h] at this
  exact this
theorem rSame_false (v1 v2 : Value) (q1 q2 : Rat) (w : World) (h1 : Rq w v1 q1) (h2 : Rq w v2 q2) (h : q1 ≠ q2) : Calls Try.prog 70 #[v1, v2] w (BoolPost w false) := by
  have := rSame_any v1 v2 q1 q2 w h1 h2
  rw [decide_eq_false h] at this
  exact this
theorem bits_pos (q : Rat) : (0 : Int) < (dl 2 q.den : Nat) := by have := dl_pos (by decide : 2 ≤ 2) (Rat.den_pos q); omega
set_option maxHeartbeats 8000000 in
theorem ratMakes_walk (nega1 : Bool) (aa1 : Option Addr) (na1 ca1 : Nat) (xa1 : List Nat) (negb1 : Bool) (ab1 : Option Addr) (nb1 cb1 : Nat) (xb1 : List Nat) (w : World) (ia1 : InX w aa1 na1 ca1 xa1) (ib1 : InX w ab1 nb1 cb1 xb1) :
    Calls Try.prog 10 #[.agg #[.bool nega1, .slice aa1 na1 ca1, .bool negb1, .slice ab1 nb1 cb1]] w (TruePost w) := by
  have oka1 := ia1.ok
  have okb1 := ib1.ok
  have bel : Below w.heap.size w w := Below.refl _ _
  refine E.enter (nt := 57) (L := [(0, .agg #[.bool nega1, .slice aa1 na1 ca1, .bool negb1, .slice ab1 nb1 cb1])]) Try.func10 rfl rfl rfl (args_cons (i := 0) rfl args_nil) ?_
  intro a hF
  refine wp_seq ?_
  refine E.seq ?_
  obtain ⟨g1, w1, ge1, hr, bb, o1⟩ := own_box (P := Try.prog) (w := w) (cs := [.bool nega1, .slice aa1 na1 ca1, .bool negb1, .slice ab1 nb1 cb1]) (v := .agg #[.bool nega1, .slice aa1 na1 ca1, .bool negb1, .slice ab1 nb1 cb1]) 74 rfl (niB (niS (niB (niS ni0))))
  replace ge1 : w.heap.size ≤ g1 := by rw [← ge1]; exact bel.size
  refine E.opv hF (r_box (hF.at 0 rfl) hr) rfl rfl rfl rfl fun a hF => ?_
  clear hr
  replace ia1 := ia1.below bb
  replace ib1 := ib1.below bb
  replace bel := below_to bel bb
  clear bb
  refine E.opv hF (r_assign ev_c) rfl rfl rfl rfl fun a hF => ?_
  refine E.nil ?_
  refine wp_seq ?_
  refine wp_seq ?_
  refine E.seq ?_
  refine E.call hF (r_call Try.func45 en45.1 en45.2 map0) (awake5_any _) rfl rfl rfl rfl ?_
  rintro e w2 ⟨rfl, bb⟩
  refine ⟨_, rfl, ?_⟩
  intro a hF
  replace ia1 := ia1.below bb
  replace ib1 := ib1.below bb
  replace o1 := o1.below bb
  replace bel := below_to bel bb
  clear bb
  refine E.opv hF (r_un (hF.at 0 rfl) (bn_not _ false rfl)) rfl rfl rfl rfl fun a hF => ?_
  refine E.nil ?_
  refine wp_cond_false (hF.at 0 rfl) ?_
  refine wp_skip ?_
  refine E.norm ?_
  refine wp_seq ?_
  refine E.drawn 6 mixed hF [8, 9, 10, 11, 3, 4] [(fun _ v => v = .agg #[.bool nega1, .slice aa1 na1 ca1, .bool negb1, .slice ab1 nb1 cb1]), (fun w v => Rq w v (((rawZ nega1 xa1 6 : Int) : Rat) / ((rawZ negb1 xb1 6 : Int) : Rat))), (fun _ v => v = .agg #[.bool nega1, .slice aa1 na1 ca1, .bool negb1, .slice ab1 nb1 cb1]), (fun w v => Rr w v (((rawZ nega1 xa1 6 : Int) : Rat) / ((rawZ negb1 xb1 6 : Int) : Rat)) (6)), (fun w v => ∃ g, v = .pointer (some ⟨g, 0, none⟩) ∧ w2.heap.size ≤ g ∧ Own w g [.bool false, .slice none 0 0, .slice none 0 0]), (fun w v => ∃ g, v = .pointer (some ⟨g, 0, none⟩) ∧ w2.heap.size ≤ g ∧ Own w g [.bool false, .slice none 0 0, .slice none 0 0])] [4, 5] (by decide +kernel) (by decide +kernel) rfl rfl rfl ⟨(Mb.eq _), (fun _ _ _ h hb => h.below hb), (Mb.eq _), (fun _ _ _ h hb => h.below hb), (fun _ _ _ ⟨g, e, l, o⟩ hb => ⟨g, e, l, o.below hb⟩), (fun _ _ _ ⟨g, e, l, o⟩ hb => ⟨g, e, l, o.below hb⟩), trivial⟩ ⟨fun _ _ ⟨g, e, _, o⟩ => ⟨g, e, o.lt⟩, ⟨fun _ _ ⟨g, e, _, o⟩ => ⟨g, e, o.lt⟩, trivial⟩⟩ ⟨?_, ?_, ?_, ?_, ?_, ?_, trivial⟩ ?_
  · intro a' w' hF' hb hd
    exact if_does (wanted_free rfl) (Does.vals (r_load (hF'.at 3 rfl) (ld_Raw5 (vs := [.bool nega1, .slice aa1 na1 ca1, .bool negb1, .slice ab1 nb1 cb1]) (o1.below hb) rfl rfl)) ⟨rfl, Below.refl _ _, (fun h => absurd h (by decide))⟩)
  · intro a' w' hF' hb hd
    have e8 : a'.tmps.getD 8 undef = .agg #[.bool nega1, .slice aa1 na1 ca1, .bool negb1, .slice ab1 nb1 cb1] := hd _ 8 (Array.mem_of_getElem? (i := 0) rfl) rfl rfl
    refine if_does (wanted_free rfl) (Does.calls (r_call Try.func46 en46.1 en46.2 (map2 e8 ev_c)) (Own5_any nega1 aa1 na1 ca1 xa1 negb1 ab1 nb1 cb1 xb1 6 _ (ia1.below hb) (ib1.below hb) (by omega)) ?_)
    rintro e w'' ⟨v', rfl, h', bb⟩
    exact ⟨_, rfl, h', bb, (fun h => absurd h (by decide))⟩
  · intro a' w' hF' hb hd
    exact if_does (wanted_free rfl) (Does.vals (r_load (hF'.at 3 rfl) (ld_Raw5 (vs := [.bool nega1, .slice aa1 na1 ca1, .bool negb1, .slice ab1 nb1 cb1]) (o1.below hb) rfl rfl)) ⟨rfl, Below.refl _ _, (fun h => absurd h (by decide))⟩)
  · intro a' w' hF' hb hd
    have e10 : a'.tmps.getD 10 undef = .agg #[.bool nega1, .slice aa1 na1 ca1, .bool negb1, .slice ab1 nb1 cb1] := hd _ 10 (Array.mem_of_getElem? (i := 0) rfl) rfl rfl
    refine if_does (wanted_free rfl) (Does.calls (r_call Try.func47 en47.1 en47.2 (map2 e10 ev_c)) (Told5_any nega1 aa1 na1 ca1 xa1 negb1 ab1 nb1 cb1 xb1 6 _ (ia1.below hb) (ib1.below hb) (by omega) (by omega)) ?_)
    rintro e w'' ⟨v', rfl, h', bb⟩
    exact ⟨_, rfl, h', bb, (fun h => absurd h (by decide))⟩
  · intro a' w' hF' hb hd
    obtain ⟨g, w2, ge, hr, bb, on⟩ := own_alloc (P := Try.prog) (w := w') (cs := [.bool false, .slice none 0 0, .slice none 0 0]) 76 ze_Rat rfl (niB (niS (niS ni0)))
    subst ge
    exact if_does (wanted_free rfl) (Does.vals (r_alloc hr) ⟨⟨_, rfl, hb.size, on⟩, bb, fun _ => rfl⟩)
  · intro a' w' hF' hb hd
    obtain ⟨g, w2, ge, hr, bb, on⟩ := own_alloc (P := Try.prog) (w := w') (cs := [.bool false, .slice none 0 0, .slice none 0 0]) 79 ze_RRat rfl (niB (niS (niS ni0)))
    subst ge
    exact if_does (wanted_free rfl) (Does.vals (r_alloc hr) ⟨⟨_, rfl, hb.size, on⟩, bb, fun _ => rfl⟩)
  intro a w3 hF bb hall hne
  obtain ⟨vv4, e9, hh5⟩ : ∃ v, a.tmps.getD 9 undef = v ∧ Rq w3 v (((rawZ nega1 xa1 6 : Int) : Rat) / ((rawZ negb1 xb1 6 : Int) : Rat)) := ⟨_, rfl, hall 1 9 rfl⟩
  obtain ⟨vv6, e11, hh7⟩ : ∃ v, a.tmps.getD 11 undef = v ∧ Rr w3 v (((rawZ nega1 xa1 6 : Int) : Rat) / ((rawZ negb1 xb1 6 : Int) : Rat)) (6) := ⟨_, rfl, hall 3 11 rfl⟩
  obtain ⟨g3, e3, ge3, o3⟩ : ∃ g, a.tmps.getD 3 undef = .pointer (some ⟨g, 0, none⟩) ∧ w2.heap.size ≤ g ∧ Own w3 g [.bool false, .slice none 0 0, .slice none 0 0] := hall 4 3 rfl
  obtain ⟨g4, e4, ge4, o4⟩ : ∃ g, a.tmps.getD 4 undef = .pointer (some ⟨g, 0, none⟩) ∧ w2.heap.size ≤ g ∧ Own w3 g [.bool false, .slice none 0 0, .slice none 0 0] := hall 5 4 rfl
  have ne3_4 : g3 ≠ g4 := by intro e; exact hne 4 5 3 4 rfl rfl (by decide) rfl rfl (by rw [e3, e4, e])
  replace ge3 : w.heap.size ≤ g3 := Nat.le_trans bel.size ge3
  replace ge4 : w.heap.size ≤ g4 := Nat.le_trans bel.size ge4
  clear hall hne
  replace bel := below_to bel bb
  clear bb
  obtain ⟨b8, ad8, n8, c8, ae8, m8, d8, rfl, hn8, hd8⟩ := Rq.shape hh5
  have hf9 := Wc.abs hn8
  replace hF := hF.add e9
  clear e9
  obtain ⟨b10, ad10, n10, c10, ae10, m10, d10, z10, D10, rfl, hn10, hd10, hD10, hq10, lz10, lD10⟩ := Rr.shape hh7
  have ha10 := hn10.abs
  replace hF := hF.add e11
  clear e11
  replace hF := hF.add e3
  clear e3
  replace hF := hF.add e4
  clear e4
  obtain ⟨w11, hr, tu, on⟩ := st_Rat (vs := [.bool b8, .slice ad8 n8 c8, .slice ae8 m8 d8]) o3 rfl rfl (ocB (ocS (ocS oc0))) (niB (niS (niS ni0))) (o := 0) rfl
  have kp := tu.keep o3
  refine E.st hF (r_store (hF.at 1 rfl) (hF.at 3 rfl) (hr _ rfl)) rfl rfl fun a hF => ?_
  clear hr
  replace hh7 := hh7.keep kp
  replace hn10 := hn10.keep kp
  replace ha10 := ha10.keep kp
  replace hd10 := hd10.keep kp
  replace hh5 := hh5.keep kp
  replace hn8 := hn8.keep kp
  replace hf9 := hf9.keep kp
  replace hd8 := hd8.keep kp
  replace o4 := tu.own o4 (Ne.symm ne3_4)
  replace bel := tu.below bel ge3
  clear tu kp
  replace o3 := on
  clear on
  obtain ⟨w12, hr, tu, on⟩ := st_RRat (vs := [.bool b10, .slice ad10 n10 c10, .slice ae10 m10 d10]) o4 rfl rfl (ocB (ocS (ocS oc0))) (niB (niS (niS ni0))) (o := 0) rfl
  have kp := tu.keep o4
  refine E.st hF (r_store (hF.at 0 rfl) (hF.at 2 rfl) (hr _ rfl)) rfl rfl fun a hF => ?_
  clear hr
  replace hf9 := hf9.keep kp
  replace hd8 := hd8.keep kp
  replace hh5 := hh5.keep kp
  replace hn8 := hn8.keep kp
  replace hh7 := hh7.keep kp
  replace hn10 := hn10.keep kp
  replace ha10 := ha10.keep kp
  replace hd10 := hd10.keep kp
  replace o3 := tu.own o3 ne3_4
  replace bel := tu.below bel ge4
  clear tu kp
  replace o4 := on
  clear on
  refine E.nil ?_
  refine wp_seq ?_
  refine E.drawn 7 mixed hF [12, 13, 14, 15, 16, 17, 5] [(fun _ v => v = .agg #[.bool b8, .slice ad8 n8 c8, .slice ae8 m8 d8]), (fun w v => Wc w v (Rat.num (((rawZ nega1 xa1 6 : Int) : Rat) / ((rawZ negb1 xb1 6 : Int) : Rat)))), (fun w v => Dg w .u32 B32 v (Int.natAbs (Rat.num (((rawZ nega1 xa1 6 : Int) : Rat) / ((rawZ negb1 xb1 6 : Int) : Rat))))), (fun _ v => v = .agg #[.bool b8, .slice ad8 n8 c8, .slice ae8 m8 d8]), (fun w v => Dg w .u32 B32 v (Rat.den (((rawZ nega1 xa1 6 : Int) : Rat) / ((rawZ negb1 xb1 6 : Int) : Rat)))), (fun w v => Dg w .u32 B32 v (Nat.gcd (Int.natAbs (Rat.num (((rawZ nega1 xa1 6 : Int) : Rat) / ((rawZ negb1 xb1 6 : Int) : Rat)))) (Rat.den (((rawZ nega1 xa1 6 : Int) : Rat) / ((rawZ negb1 xb1 6 : Int) : Rat))))), (fun w v => Dg w .u32 B32 v (Nat.gcd (Int.natAbs (Rat.num (((rawZ nega1 xa1 6 : Int) : Rat) / ((rawZ negb1 xb1 6 : Int) : Rat)))) (Rat.den (((rawZ nega1 xa1 6 : Int) : Rat) / ((rawZ negb1 xb1 6 : Int) : Rat)))))] [] (by decide +kernel) (by decide +kernel) rfl rfl rfl ⟨(Mb.eq _), (fun _ _ _ h hb => h.below hb), (fun _ _ _ h hb => h.below hb), (Mb.eq _), (fun _ _ _ h hb => h.below hb), (fun _ _ _ h hb => h.below hb), (fun _ _ _ h hb => h.below hb), trivial⟩ trivial ⟨?_, ?_, ?_, ?_, ?_, ?_, ?_, trivial⟩ ?_
  · intro a' w' hF' hb hd
    exact if_does (wanted_free rfl) (Does.vals (r_load (hF'.at 1 rfl) (ld_Rat (vs := [.bool b8, .slice ad8 n8 c8, .slice ae8 m8 d8]) (o3.below hb) rfl rfl)) ⟨rfl, Below.refl _ _, (fun h => absurd h (by decide))⟩)
  · intro a' w' hF' hb hd
    have e12 : a'.tmps.getD 12 undef = .agg #[.bool b8, .slice ad8 n8 c8, .slice ae8 m8 d8] := hd _ 12 (Array.mem_of_getElem? (i := 0) rfl) rfl rfl
    refine if_does (wanted_free rfl) (Does.calls (r_call Try.func49 en49.1 en49.2 (map1 e12)) (rnum_any _ (((rawZ nega1 xa1 6 : Int) : Rat) / ((rawZ negb1 xb1 6 : Int) : Rat)) _ (hh5.below hb)) ?_)
    rintro e w'' ⟨v', rfl, h', bb⟩
    exact ⟨_, rfl, h', bb, (fun h => absurd h (by decide))⟩
  · intro a' w' hF' hb hd
    obtain ⟨v13_0, e13, h13_1⟩ : ∃ v, a'.tmps.getD 13 undef = v ∧ Wc w' v (Rat.num (((rawZ nega1 xa1 6 : Int) : Rat) / ((rawZ negb1 xb1 6 : Int) : Rat))) := ⟨_, rfl, hd _ 13 (Array.mem_of_getElem? (i := 0) rfl) rfl rfl⟩
    obtain ⟨ad13, n13, c13, rfl, _⟩ := Wc.shape h13_1
    have hf14 := Wc.abs h13_1
    exact if_does (wanted_free rfl) (Does.vals (r_fieldv e13 (fv_Int_1 _ _ _ _ _)) ⟨hf14, Below.refl _ _, (fun h => absurd h (by decide))⟩)
  · intro a' w' hF' hb hd
    exact if_does (wanted_free rfl) (Does.vals (r_load (hF'.at 1 rfl) (ld_Rat (vs := [.bool b8, .slice ad8 n8 c8, .slice ae8 m8 d8]) (o3.below hb) rfl rfl)) ⟨rfl, Below.refl _ _, (fun h => absurd h (by decide))⟩)
  · intro a' w' hF' hb hd
    have e15 : a'.tmps.getD 15 undef = .agg #[.bool b8, .slice ad8 n8 c8, .slice ae8 m8 d8] := hd _ 15 (Array.mem_of_getElem? (i := 0) rfl) rfl rfl
    refine if_does (wanted_free rfl) (Does.calls (r_call Try.func50 en50.1 en50.2 (map1 e15)) (rden_any _ (((rawZ nega1 xa1 6 : Int) : Rat) / ((rawZ negb1 xb1 6 : Int) : Rat)) _ (hh5.below hb)) ?_)
    rintro e w'' ⟨v', rfl, h', bb⟩
    exact ⟨_, rfl, h', bb, (fun h => absurd h (by decide))⟩
  · intro a' w' hF' hb hd
    obtain ⟨v14, e14, h14⟩ : ∃ v, a'.tmps.getD 14 undef = v ∧ Dg w' .u32 B32 v (Int.natAbs (Rat.num (((rawZ nega1 xa1 6 : Int) : Rat) / ((rawZ negb1 xb1 6 : Int) : Rat)))) := ⟨_, rfl, hd _ 14 (Array.mem_of_getElem? (i := 0) rfl) rfl rfl⟩
    obtain ⟨v16_0, e16, h16_1⟩ : ∃ v, a'.tmps.getD 16 undef = v ∧ Dg w' .u32 B32 v (Rat.den (((rawZ nega1 xa1 6 : Int) : Rat) / ((rawZ negb1 xb1 6 : Int) : Rat))) := ⟨_, rfl, hd _ 16 (Array.mem_of_getElem? (i := 1) rfl) rfl rfl⟩
    refine if_does (wanted_free rfl) (Does.calls (r_call Try.func48 en48.1 en48.2 (map2 e14 e16)) (gcd_any _ _ (Int.natAbs (Rat.num (((rawZ nega1 xa1 6 : Int) : Rat) / ((rawZ negb1 xb1 6 : Int) : Rat)))) (Rat.den (((rawZ nega1 xa1 6 : Int) : Rat) / ((rawZ negb1 xb1 6 : Int) : Rat))) _ (Dg.nt h14) (Dg.nt h16_1)) ?_)
    rintro e w'' ⟨v', rfl, h', bb⟩
    exact ⟨_, rfl, h', bb, (fun h => absurd h (by decide))⟩
  · intro a' w' hF' hb hd
    obtain ⟨v17_0, e17, h17_1⟩ : ∃ v, a'.tmps.getD 17 undef = v ∧ Dg w' .u32 B32 v (Nat.gcd (Int.natAbs (Rat.num (((rawZ nega1 xa1 6 : Int) : Rat) / ((rawZ negb1 xb1 6 : Int) : Rat)))) (Rat.den (((rawZ nega1 xa1 6 : Int) : Rat) / ((rawZ negb1 xb1 6 : Int) : Rat)))) := ⟨_, rfl, hd _ 17 (Array.mem_of_getElem? (i := 0) rfl) rfl rfl⟩
    exact if_does (wanted_free rfl) (Does.vals (r_assign e17) ⟨h17_1, Below.refl _ _, (fun h => absurd h (by decide))⟩)
  intro a w15 hF bb hall hne
  obtain ⟨vv16, e5, hh17⟩ : ∃ v, a.tmps.getD 5 undef = v ∧ Dg w15 .u32 B32 v (Nat.gcd (Int.natAbs (Rat.num (((rawZ nega1 xa1 6 : Int) : Rat) / ((rawZ negb1 xb1 6 : Int) : Rat)))) (Rat.den (((rawZ nega1 xa1 6 : Int) : Rat) / ((rawZ negb1 xb1 6 : Int) : Rat)))) := ⟨_, rfl, hall 6 5 rfl⟩
  clear hall hne
  replace hf9 := hf9.below bb
  replace hd8 := hd8.below bb
  replace hh5 := hh5.below bb
  replace hn8 := hn8.below bb
  replace ha10 := ha10.below bb
  replace hd10 := hd10.below bb
  replace hh7 := hh7.below bb
  replace hn10 := hn10.below bb
  replace o3 := o3.below bb
  replace o4 := o4.below bb
  replace bel := below_to bel bb
  clear bb
  obtain ⟨ad18, n18, c18, rfl⟩ := Dg.form hh17
  replace hF := hF.add e5
  clear e5
  refine E.nil ?_
  refine wp_seq ?_
  refine E.drawn 39 mixed hF [18, 19, 20, 21, 22, 23, 24, 25, 26, 27, 28, 29, 30, 31, 32, 33, 34, 35, 36, 37, 38, 39, 40, 41, 42, 43, 44, 45, 46, 47, 48, 49, 50, 51, 52, 53, 54, 55, 56] [(fun _ v => v = .agg #[.bool b8, .slice ad8 n8 c8, .slice ae8 m8 d8]), (fun _ v => v = .agg #[.bool b10, .slice ad10 n10 c10, .slice ae10 m10 d10]), (fun _ v => v = .int .i64 0), (fun _ v => v = .bool true), (fun _ v => v = .bool true), (fun _ v => v = .slice ad18 n18 c18), (fun w v => Dg w .u32 B32 v (1)), (fun _ v => v = .int .i64 (c3 (Nat.gcd (Int.natAbs (Rat.num (((rawZ nega1 xa1 6 : Int) : Rat) / ((rawZ negb1 xb1 6 : Int) : Rat)))) (Rat.den (((rawZ nega1 xa1 6 : Int) : Rat) / ((rawZ negb1 xb1 6 : Int) : Rat)))) (1))), (fun _ v => v = .bool true), (fun _ v => v = .bool true), (fun _ v => v = .bool true), (fun _ v => v = .agg #[.bool b8, .slice ad8 n8 c8, .slice ae8 m8 d8]), (fun w v => Dg w .u32 B32 v (Rat.den (((rawZ nega1 xa1 6 : Int) : Rat) / ((rawZ negb1 xb1 6 : Int) : Rat)))), (fun _ v => v = .int .i64 (dl 2 (Rat.den (((rawZ nega1 xa1 6 : Int) : Rat) / ((rawZ negb1 xb1 6 : Int) : Rat))) : Nat)), (fun _ v => v = .bool true), (fun _ v => v = .bool true), (fun _ v => v = .bool true), (fun _ v => v = .agg #[.bool b8, .slice ad8 n8 c8, .slice ae8 m8 d8]), (fun w v => Rq w v (-(((rawZ nega1 xa1 6 : Int) : Rat) / ((rawZ negb1 xb1 6 : Int) : Rat)))), (fun _ v => v = .agg #[.bool b10, .slice ad10 n10 c10, .slice ae10 m10 d10]), (fun w v => Rr w v (-(((rawZ nega1 xa1 6 : Int) : Rat) / ((rawZ negb1 xb1 6 : Int) : Rat))) (6)), (fun _ v => v = .int .i64 0), (fun _ v => v = .bool true), (fun _ v => v = .bool true), (fun _ v => v = .bool true), (fun _ v => v = .agg #[.bool b8, .slice ad8 n8 c8, .slice ae8 m8 d8]), (fun w v => Rq w v (Rat.abs (((rawZ nega1 xa1 6 : Int) : Rat) / ((rawZ negb1 xb1 6 : Int) : Rat)))), (fun _ v => v = .agg #[.bool b10, .slice ad10 n10 c10, .slice ae10 m10 d10]), (fun w v => Rr w v (Rat.abs (((rawZ nega1 xa1 6 : Int) : Rat) / ((rawZ negb1 xb1 6 : Int) : Rat))) (6)), (fun _ v => v = .int .i64 0), (fun _ v => v = .bool true), (fun _ v => v = .bool true), (fun _ v => v = .bool true), (fun _ v => v = .agg #[.bool b8, .slice ad8 n8 c8, .slice ae8 m8 d8]), (fun _ v => v = .int .i64 (sz (Rat.num (((rawZ nega1 xa1 6 : Int) : Rat) / ((rawZ negb1 xb1 6 : Int) : Rat))))), (fun _ v => v = .agg #[.bool b10, .slice ad10 n10 c10, .slice ae10 m10 d10]), (fun _ v => v = .int .i64 (sz (Rat.num (((rawZ nega1 xa1 6 : Int) : Rat) / ((rawZ negb1 xb1 6 : Int) : Rat))))), (fun _ v => v = .bool true), (fun _ v => v = .bool true)] [] (by decide +kernel) (by decide +kernel) rfl rfl rfl ⟨(Mb.eq _), (Mb.eq _), (Mb.eq _), (Mb.eq _), (Mb.eq _), (Mb.eq _), (fun _ _ _ h hb => h.below hb), (Mb.eq _), (Mb.eq _), (Mb.eq _), (Mb.eq _), (Mb.eq _), (fun _ _ _ h hb => h.below hb), (Mb.eq _), (Mb.eq _), (Mb.eq _), (Mb.eq _), (Mb.eq _), (fun _ _ _ h hb => h.below hb), (Mb.eq _), (fun _ _ _ h hb => h.below hb), (Mb.eq _), (Mb.eq _), (Mb.eq _), (Mb.eq _), (Mb.eq _), (fun _ _ _ h hb => h.below hb), (Mb.eq _), (fun _ _ _ h hb => h.below hb), (Mb.eq _), (Mb.eq _), (Mb.eq _), (Mb.eq _), (Mb.eq _), (Mb.eq _), (Mb.eq _), (Mb.eq _), (Mb.eq _), (Mb.eq _), trivial⟩ trivial ⟨?_, ?_, ?_, ?_, ?_, ?_, ?_, ?_, ?_, ?_, ?_, ?_, ?_, ?_, ?_, ?_, ?_, ?_, ?_, ?_, ?_, ?_, ?_, ?_, ?_, ?_, ?_, ?_, ?_, ?_, ?_, ?_, ?_, ?_, ?_, ?_, ?_, ?_, ?_, trivial⟩ ?_
  · intro a' w' hF' hb hd
    exact if_does (wanted_free rfl) (Does.vals (r_load (hF'.at 2 rfl) (ld_Rat (vs := [.bool b8, .slice ad8 n8 c8, .slice ae8 m8 d8]) (o3.below hb) rfl rfl)) ⟨rfl, Below.refl _ _, (fun h => absurd h (by decide))⟩)
  · intro a' w' hF' hb hd
    exact if_does (wanted_free rfl) (Does.vals (r_load (hF'.at 1 rfl) (ld_RRat (vs := [.bool b10, .slice ad10 n10 c10, .slice ae10 m10 d10]) (o4.below hb) rfl rfl)) ⟨rfl, Below.refl _ _, (fun h => absurd h (by decide))⟩)
  · intro a' w' hF' hb hd
    have e18 : a'.tmps.getD 18 undef = .agg #[.bool b8, .slice ad8 n8 c8, .slice ae8 m8 d8] := hd _ 18 (Array.mem_of_getElem? (i := 0) rfl) rfl rfl
    have e19 : a'.tmps.getD 19 undef = .agg #[.bool b10, .slice ad10 n10 c10, .slice ae10 m10 d10] := hd _ 19 (Array.mem_of_getElem? (i := 1) rfl) rfl rfl
    refine if_does (wanted_free rfl) (Does.calls (r_call Try.func51 en51.1 en51.2 (map2 e18 e19)) (Is5_any _ _ (((rawZ nega1 xa1 6 : Int) : Rat) / ((rawZ negb1 xb1 6 : Int) : Rat)) (((rawZ nega1 xa1 6 : Int) : Rat) / ((rawZ negb1 xb1 6 : Int) : Rat)) 6 6 _ (hh5.below hb) (hh7.below hb) (own5_lim nega1 negb1 oka1 okb1 6 (by decide)) rfl (by omega) (by omega)) ?_)
    rintro e w'' ⟨rfl, bb⟩
    exact ⟨_, rfl, rfl, bb, (fun h => absurd h (by decide))⟩
  · intro a' w' hF' hb hd
    have e20 : a'.tmps.getD 20 undef = .int .i64 0 := hd _ 20 (Array.mem_of_getElem? (i := 0) rfl) rfl rfl
    exact if_does (wanted_free rfl) (Does.vals (r_bin e20 ev_c eg_scalar (bi_int (ic_eql (c := true) (by simp)) (by simp))) ⟨rfl, Below.refl _ _, (fun h => absurd h (by decide))⟩)
  · intro a' w' hF' hb hd
    have e21 : a'.tmps.getD 21 undef = .bool true := hd _ 21 (Array.mem_of_getElem? (i := 0) rfl) rfl rfl
    exact if_does (wanted_free rfl) (Does.vals (r_move e21) ⟨rfl, Below.refl _ _, (fun h => absurd h (by decide))⟩)
  · intro a' w' hF' hb hd
    have e22 : a'.tmps.getD 22 undef = .bool true := hd _ 22 (Array.mem_of_getElem? (i := 0) rfl) rfl rfl
    exact if_does (wanted_by rfl rfl e22 rfl) (Does.vals (r_move (hF'.at 0 rfl)) ⟨rfl, Below.refl _ _, (fun h => absurd h (by decide))⟩)
  · intro a' w' hF' hb hd
    have e22 : a'.tmps.getD 22 undef = .bool true := hd _ 22 (Array.mem_of_getElem? (i := 0) rfl) rfl rfl
    refine if_does (wanted_by rfl rfl e22 rfl) (Does.calls (r_call Try.func52 en52.1 en52.2 (map1 ev_c)) (of_any 1 _ (by decide)) ?_)
    rintro e w'' ⟨v', rfl, h', bb⟩
    exact ⟨_, rfl, h', bb, (fun h => absurd h (by decide))⟩
  · intro a' w' hF' hb hd
    have e22 : a'.tmps.getD 22 undef = .bool true := hd _ 22 (Array.mem_of_getElem? (i := 3) rfl) rfl rfl
    have e23 : a'.tmps.getD 23 undef = .slice ad18 n18 c18 := hd _ 23 (Array.mem_of_getElem? (i := 0) rfl) rfl rfl
    obtain ⟨v24_0, e24, h24_1⟩ : ∃ v, a'.tmps.getD 24 undef = v ∧ Dg w' .u32 B32 v (1) := ⟨_, rfl, hd _ 24 (Array.mem_of_getElem? (i := 1) rfl) rfl rfl⟩
    refine if_does (wanted_by rfl rfl e22 rfl) (Does.calls (r_call Try.func33 en33.1 en33.2 (map2 e23 e24)) (cmp_any _ _ (Nat.gcd (Int.natAbs (Rat.num (((rawZ nega1 xa1 6 : Int) : Rat) / ((rawZ negb1 xb1 6 : Int) : Rat)))) (Rat.den (((rawZ nega1 xa1 6 : Int) : Rat) / ((rawZ negb1 xb1 6 : Int) : Rat)))) 1 _ (Dg.nt (hh17.below hb)) (Dg.nt h24_1)) ?_)
    intro e w'' hh
    obtain ⟨rfl, bb, hsz⟩ := quiet_below hh
    exact ⟨_, rfl, rfl, bb, (fun h => absurd h (by decide))⟩
  · intro a' w' hF' hb hd
    have e22 : a'.tmps.getD 22 undef = .bool true := hd _ 22 (Array.mem_of_getElem? (i := 1) rfl) rfl rfl
    have e25 : a'.tmps.getD 25 undef = .int .i64 (c3 (Nat.gcd (Int.natAbs (Rat.num (((rawZ nega1 xa1 6 : Int) : Rat) / ((rawZ negb1 xb1 6 : Int) : Rat)))) (Rat.den (((rawZ nega1 xa1 6 : Int) : Rat) / ((rawZ negb1 xb1 6 : Int) : Rat)))) (1)) := hd _ 25 (Array.mem_of_getElem? (i := 0) rfl) rfl rfl
    exact if_does (wanted_by rfl rfl e22 rfl) (Does.vals (r_bin e25 ev_c eg_scalar (bi_int (ic_eql (c := true) (eqx (c3_eqx (Rat.reduced _)))) (by simp))) ⟨rfl, Below.refl _ _, (fun h => absurd h (by decide))⟩)
  · intro a' w' hF' hb hd
    have e22 : a'.tmps.getD 22 undef = .bool true := hd _ 22 (Array.mem_of_getElem? (i := 0) rfl) rfl rfl
    have e26 : a'.tmps.getD 26 undef = .bool true := hd _ 26 (Array.mem_of_getElem? (i := 1) rfl) rfl rfl
    exact if_does (wanted_free rfl) (Does.vals (r_pick_t e22 e26) ⟨rfl, Below.refl _ _, (fun h => absurd h (by decide))⟩)
  · intro a' w' hF' hb hd
    have e27 : a'.tmps.getD 27 undef = .bool true := hd _ 27 (Array.mem_of_getElem? (i := 0) rfl) rfl rfl
    exact if_does (wanted_free rfl) (Does.vals (r_move e27) ⟨rfl, Below.refl _ _, (fun h => absurd h (by decide))⟩)
  · intro a' w' hF' hb hd
    have e28 : a'.tmps.getD 28 undef = .bool true := hd _ 28 (Array.mem_of_getElem? (i := 0) rfl) rfl rfl
    exact if_does (wanted_by rfl rfl e28 rfl) (Does.vals (r_load (hF'.at 2 rfl) (ld_Rat (vs := [.bool b8, .slice ad8 n8 c8, .slice ae8 m8 d8]) (o3.below hb) rfl rfl)) ⟨rfl, Below.refl _ _, (fun h => absurd h (by decide))⟩)
  · intro a' w' hF' hb hd
    have e28 : a'.tmps.getD 28 undef = .bool true := hd _ 28 (Array.mem_of_getElem? (i := 1) rfl) rfl rfl
    have e29 : a'.tmps.getD 29 undef = .agg #[.bool b8, .slice ad8 n8 c8, .slice ae8 m8 d8] := hd _ 29 (Array.mem_of_getElem? (i := 0) rfl) rfl rfl
    refine if_does (wanted_by rfl rfl e28 rfl) (Does.calls (r_call Try.func50 en50.1 en50.2 (map1 e29)) (rden_any _ (((rawZ nega1 xa1 6 : Int) : Rat) / ((rawZ negb1 xb1 6 : Int) : Rat)) _ (hh5.below hb)) ?_)
    rintro e w'' ⟨v', rfl, h', bb⟩
    exact ⟨_, rfl, h', bb, (fun h => absurd h (by decide))⟩
  · intro a' w' hF' hb hd
    have e28 : a'.tmps.getD 28 undef = .bool true := hd _ 28 (Array.mem_of_getElem? (i := 2) rfl) rfl rfl
    obtain ⟨v30_0, e30, h30_1⟩ : ∃ v, a'.tmps.getD 30 undef = v ∧ Dg w' .u32 B32 v (Rat.den (((rawZ nega1 xa1 6 : Int) : Rat) / ((rawZ negb1 xb1 6 : Int) : Rat))) := ⟨_, rfl, hd _ 30 (Array.mem_of_getElem? (i := 0) rfl) rfl rfl⟩
    refine if_does (wanted_by rfl rfl e28 rfl) (Does.calls (r_call Try.func53 en53.1 en53.2 (map1 e30)) (bits_any _ (Rat.den (((rawZ nega1 xa1 6 : Int) : Rat) / ((rawZ negb1 xb1 6 : Int) : Rat))) _ (Dg.nt h30_1)) ?_)
    rintro e w'' ⟨rfl, hw⟩
    exact ⟨_, rfl, rfl, by rw [hw]; exact Below.refl _ _, (fun h => absurd h (by decide))⟩
  · intro a' w' hF' hb hd
    have e28 : a'.tmps.getD 28 undef = .bool true := hd _ 28 (Array.mem_of_getElem? (i := 1) rfl) rfl rfl
    have e31 : a'.tmps.getD 31 undef = .int .i64 (dl 2 (Rat.den (((rawZ nega1 xa1 6 : Int) : Rat) / ((rawZ negb1 xb1 6 : Int) : Rat))) : Nat) := hd _ 31 (Array.mem_of_getElem? (i := 0) rfl) rfl rfl
    exact if_does (wanted_by rfl rfl e28 rfl) (Does.vals (r_bin e31 ev_c eg_scalar (bi_int (ic_gtr (c := true) (dec_t (bits_pos _))) (by simp))) ⟨rfl, Below.refl _ _, (fun h => absurd h (by decide))⟩)
  · intro a' w' hF' hb hd
    have e28 : a'.tmps.getD 28 undef = .bool true := hd _ 28 (Array.mem_of_getElem? (i := 0) rfl) rfl rfl
    have e32 : a'.tmps.getD 32 undef = .bool true := hd _ 32 (Array.mem_of_getElem? (i := 1) rfl) rfl rfl
    exact if_does (wanted_free rfl) (Does.vals (r_pick_t e28 e32) ⟨rfl, Below.refl _ _, (fun h => absurd h (by decide))⟩)
  · intro a' w' hF' hb hd
    have e33 : a'.tmps.getD 33 undef = .bool true := hd _ 33 (Array.mem_of_getElem? (i := 0) rfl) rfl rfl
    exact if_does (wanted_free rfl) (Does.vals (r_move e33) ⟨rfl, Below.refl _ _, (fun h => absurd h (by decide))⟩)
  · intro a' w' hF' hb hd
    have e34 : a'.tmps.getD 34 undef = .bool true := hd _ 34 (Array.mem_of_getElem? (i := 0) rfl) rfl rfl
    exact if_does (wanted_by rfl rfl e34 rfl) (Does.vals (r_load (hF'.at 2 rfl) (ld_Rat (vs := [.bool b8, .slice ad8 n8 c8, .slice ae8 m8 d8]) (o3.below hb) rfl rfl)) ⟨rfl, Below.refl _ _, (fun h => absurd h (by decide))⟩)
  · intro a' w' hF' hb hd
    have e34 : a'.tmps.getD 34 undef = .bool true := hd _ 34 (Array.mem_of_getElem? (i := 1) rfl) rfl rfl
    have e35 : a'.tmps.getD 35 undef = .agg #[.bool b8, .slice ad8 n8 c8, .slice ae8 m8 d8] := hd _ 35 (Array.mem_of_getElem? (i := 0) rfl) rfl rfl
    refine if_does (wanted_by rfl rfl e34 rfl) (Does.calls (r_call Try.func54 en54.1 en54.2 (map1 e35)) (rOpp_any _ (((rawZ nega1 xa1 6 : Int) : Rat) / ((rawZ negb1 xb1 6 : Int) : Rat)) _ (hh5.below hb)) ?_)
    rintro e w'' ⟨v', rfl, h', bb⟩
    exact ⟨_, rfl, h', bb, (fun h => absurd h (by decide))⟩
  · intro a' w' hF' hb hd
    have e34 : a'.tmps.getD 34 undef = .bool true := hd _ 34 (Array.mem_of_getElem? (i := 0) rfl) rfl rfl
    exact if_does (wanted_by rfl rfl e34 rfl) (Does.vals (r_load (hF'.at 1 rfl) (ld_RRat (vs := [.bool b10, .slice ad10 n10 c10, .slice ae10 m10 d10]) (o4.below hb) rfl rfl)) ⟨rfl, Below.refl _ _, (fun h => absurd h (by decide))⟩)
  · intro a' w' hF' hb hd
    have e34 : a'.tmps.getD 34 undef = .bool true := hd _ 34 (Array.mem_of_getElem? (i := 2) rfl) rfl rfl
    have e37 : a'.tmps.getD 37 undef = .agg #[.bool b10, .slice ad10 n10 c10, .slice ae10 m10 d10] := hd _ 37 (Array.mem_of_getElem? (i := 0) rfl) rfl rfl
    refine if_does (wanted_by rfl rfl e34 rfl) (Does.calls (r_call Try.func55 en55.1 en55.2 (map1 e37)) (dOpp_any _ (((rawZ nega1 xa1 6 : Int) : Rat) / ((rawZ negb1 xb1 6 : Int) : Rat)) 6 _ (hh7.below hb)) ?_)
    rintro e w'' ⟨v', rfl, h', bb⟩
    exact ⟨_, rfl, h', bb, (fun h => absurd h (by decide))⟩
  · intro a' w' hF' hb hd
    have e34 : a'.tmps.getD 34 undef = .bool true := hd _ 34 (Array.mem_of_getElem? (i := 3) rfl) rfl rfl
    obtain ⟨v36_0, e36, h36_1⟩ : ∃ v, a'.tmps.getD 36 undef = v ∧ Rq w' v (-(((rawZ nega1 xa1 6 : Int) : Rat) / ((rawZ negb1 xb1 6 : Int) : Rat))) := ⟨_, rfl, hd _ 36 (Array.mem_of_getElem? (i := 0) rfl) rfl rfl⟩
    obtain ⟨v38_0, e38, h38_1⟩ : ∃ v, a'.tmps.getD 38 undef = v ∧ Rr w' v (-(((rawZ nega1 xa1 6 : Int) : Rat) / ((rawZ negb1 xb1 6 : Int) : Rat))) (6) := ⟨_, rfl, hd _ 38 (Array.mem_of_getElem? (i := 1) rfl) rfl rfl⟩
    refine if_does (wanted_by rfl rfl e34 rfl) (Does.calls (r_call Try.func51 en51.1 en51.2 (map2 e36 e38)) (Is5_any _ _ (-(((rawZ nega1 xa1 6 : Int) : Rat) / ((rawZ negb1 xb1 6 : Int) : Rat))) (-(((rawZ nega1 xa1 6 : Int) : Rat) / ((rawZ negb1 xb1 6 : Int) : Rat))) 6 6 _ h36_1 h38_1 (rlim_neg (own5_lim nega1 negb1 oka1 okb1 6 (by decide))) rfl (by omega) (by omega)) ?_)
    rintro e w'' ⟨rfl, bb⟩
    exact ⟨_, rfl, rfl, bb, (fun h => absurd h (by decide))⟩
  · intro a' w' hF' hb hd
    have e34 : a'.tmps.getD 34 undef = .bool true := hd _ 34 (Array.mem_of_getElem? (i := 1) rfl) rfl rfl
    have e39 : a'.tmps.getD 39 undef = .int .i64 0 := hd _ 39 (Array.mem_of_getElem? (i := 0) rfl) rfl rfl
    exact if_does (wanted_by rfl rfl e34 rfl) (Does.vals (r_bin e39 ev_c eg_scalar (bi_int (ic_eql (c := true) (by simp)) (by simp))) ⟨rfl, Below.refl _ _, (fun h => absurd h (by decide))⟩)
  · intro a' w' hF' hb hd
    have e34 : a'.tmps.getD 34 undef = .bool true := hd _ 34 (Array.mem_of_getElem? (i := 0) rfl) rfl rfl
    have e40 : a'.tmps.getD 40 undef = .bool true := hd _ 40 (Array.mem_of_getElem? (i := 1) rfl) rfl rfl
    exact if_does (wanted_free rfl) (Does.vals (r_pick_t e34 e40) ⟨rfl, Below.refl _ _, (fun h => absurd h (by decide))⟩)
  · intro a' w' hF' hb hd
    have e41 : a'.tmps.getD 41 undef = .bool true := hd _ 41 (Array.mem_of_getElem? (i := 0) rfl) rfl rfl
    exact if_does (wanted_free rfl) (Does.vals (r_move e41) ⟨rfl, Below.refl _ _, (fun h => absurd h (by decide))⟩)
  · intro a' w' hF' hb hd
    have e42 : a'.tmps.getD 42 undef = .bool true := hd _ 42 (Array.mem_of_getElem? (i := 0) rfl) rfl rfl
    exact if_does (wanted_by rfl rfl e42 rfl) (Does.vals (r_load (hF'.at 2 rfl) (ld_Rat (vs := [.bool b8, .slice ad8 n8 c8, .slice ae8 m8 d8]) (o3.below hb) rfl rfl)) ⟨rfl, Below.refl _ _, (fun h => absurd h (by decide))⟩)
  · intro a' w' hF' hb hd
    have e42 : a'.tmps.getD 42 undef = .bool true := hd _ 42 (Array.mem_of_getElem? (i := 1) rfl) rfl rfl
    have e43 : a'.tmps.getD 43 undef = .agg #[.bool b8, .slice ad8 n8 c8, .slice ae8 m8 d8] := hd _ 43 (Array.mem_of_getElem? (i := 0) rfl) rfl rfl
    refine if_does (wanted_by rfl rfl e42 rfl) (Does.calls (r_call Try.func56 en56.1 en56.2 (map1 e43)) (rAbs_any _ (((rawZ nega1 xa1 6 : Int) : Rat) / ((rawZ negb1 xb1 6 : Int) : Rat)) _ (hh5.below hb)) ?_)
    rintro e w'' ⟨v', rfl, h', bb⟩
    exact ⟨_, rfl, h', bb, (fun h => absurd h (by decide))⟩
  · intro a' w' hF' hb hd
    have e42 : a'.tmps.getD 42 undef = .bool true := hd _ 42 (Array.mem_of_getElem? (i := 0) rfl) rfl rfl
    exact if_does (wanted_by rfl rfl e42 rfl) (Does.vals (r_load (hF'.at 1 rfl) (ld_RRat (vs := [.bool b10, .slice ad10 n10 c10, .slice ae10 m10 d10]) (o4.below hb) rfl rfl)) ⟨rfl, Below.refl _ _, (fun h => absurd h (by decide))⟩)
  · intro a' w' hF' hb hd
    have e42 : a'.tmps.getD 42 undef = .bool true := hd _ 42 (Array.mem_of_getElem? (i := 2) rfl) rfl rfl
    have e45 : a'.tmps.getD 45 undef = .agg #[.bool b10, .slice ad10 n10 c10, .slice ae10 m10 d10] := hd _ 45 (Array.mem_of_getElem? (i := 0) rfl) rfl rfl
    refine if_does (wanted_by rfl rfl e42 rfl) (Does.calls (r_call Try.func57 en57.1 en57.2 (map1 e45)) (dAbs_any _ (((rawZ nega1 xa1 6 : Int) : Rat) / ((rawZ negb1 xb1 6 : Int) : Rat)) 6 _ (hh7.below hb)) ?_)
    rintro e w'' ⟨v', rfl, h', bb⟩
    exact ⟨_, rfl, h', bb, (fun h => absurd h (by decide))⟩
  · intro a' w' hF' hb hd
    have e42 : a'.tmps.getD 42 undef = .bool true := hd _ 42 (Array.mem_of_getElem? (i := 3) rfl) rfl rfl
    obtain ⟨v44_0, e44, h44_1⟩ : ∃ v, a'.tmps.getD 44 undef = v ∧ Rq w' v (Rat.abs (((rawZ nega1 xa1 6 : Int) : Rat) / ((rawZ negb1 xb1 6 : Int) : Rat))) := ⟨_, rfl, hd _ 44 (Array.mem_of_getElem? (i := 0) rfl) rfl rfl⟩
    obtain ⟨v46_0, e46, h46_1⟩ : ∃ v, a'.tmps.getD 46 undef = v ∧ Rr w' v (Rat.abs (((rawZ nega1 xa1 6 : Int) : Rat) / ((rawZ negb1 xb1 6 : Int) : Rat))) (6) := ⟨_, rfl, hd _ 46 (Array.mem_of_getElem? (i := 1) rfl) rfl rfl⟩
    refine if_does (wanted_by rfl rfl e42 rfl) (Does.calls (r_call Try.func51 en51.1 en51.2 (map2 e44 e46)) (Is5_any _ _ (Rat.abs (((rawZ nega1 xa1 6 : Int) : Rat) / ((rawZ negb1 xb1 6 : Int) : Rat))) (Rat.abs (((rawZ nega1 xa1 6 : Int) : Rat) / ((rawZ negb1 xb1 6 : Int) : Rat))) 6 6 _ h44_1 h46_1 (rlim_abs (own5_lim nega1 negb1 oka1 okb1 6 (by decide))) rfl (by omega) (by omega)) ?_)
    rintro e w'' ⟨rfl, bb⟩
    exact ⟨_, rfl, rfl, bb, (fun h => absurd h (by decide))⟩
  · intro a' w' hF' hb hd
    have e42 : a'.tmps.getD 42 undef = .bool true := hd _ 42 (Array.mem_of_getElem? (i := 1) rfl) rfl rfl
    have e47 : a'.tmps.getD 47 undef = .int .i64 0 := hd _ 47 (Array.mem_of_getElem? (i := 0) rfl) rfl rfl
    exact if_does (wanted_by rfl rfl e42 rfl) (Does.vals (r_bin e47 ev_c eg_scalar (bi_int (ic_eql (c := true) (by simp)) (by simp))) ⟨rfl, Below.refl _ _, (fun h => absurd h (by decide))⟩)
  · intro a' w' hF' hb hd
    have e42 : a'.tmps.getD 42 undef = .bool true := hd _ 42 (Array.mem_of_getElem? (i := 0) rfl) rfl rfl
    have e48 : a'.tmps.getD 48 undef = .bool true := hd _ 48 (Array.mem_of_getElem? (i := 1) rfl) rfl rfl
    exact if_does (wanted_free rfl) (Does.vals (r_pick_t e42 e48) ⟨rfl, Below.refl _ _, (fun h => absurd h (by decide))⟩)
  · intro a' w' hF' hb hd
    have e49 : a'.tmps.getD 49 undef = .bool true := hd _ 49 (Array.mem_of_getElem? (i := 0) rfl) rfl rfl
    exact if_does (wanted_free rfl) (Does.vals (r_move e49) ⟨rfl, Below.refl _ _, (fun h => absurd h (by decide))⟩)
  · intro a' w' hF' hb hd
    have e50 : a'.tmps.getD 50 undef = .bool true := hd _ 50 (Array.mem_of_getElem? (i := 0) rfl) rfl rfl
    exact if_does (wanted_by rfl rfl e50 rfl) (Does.vals (r_load (hF'.at 2 rfl) (ld_Rat (vs := [.bool b8, .slice ad8 n8 c8, .slice ae8 m8 d8]) (o3.below hb) rfl rfl)) ⟨rfl, Below.refl _ _, (fun h => absurd h (by decide))⟩)
  · intro a' w' hF' hb hd
    have e50 : a'.tmps.getD 50 undef = .bool true := hd _ 50 (Array.mem_of_getElem? (i := 1) rfl) rfl rfl
    have e51 : a'.tmps.getD 51 undef = .agg #[.bool b8, .slice ad8 n8 c8, .slice ae8 m8 d8] := hd _ 51 (Array.mem_of_getElem? (i := 0) rfl) rfl rfl
    refine if_does (wanted_by rfl rfl e50 rfl) (Does.calls (r_call Try.func58 en58.1 en58.2 (map1 e51)) (rsgn_any _ (((rawZ nega1 xa1 6 : Int) : Rat) / ((rawZ negb1 xb1 6 : Int) : Rat)) _ (hh5.below hb)) ?_)
    rintro e w'' ⟨rfl, bb⟩
    exact ⟨_, rfl, rfl, bb, (fun h => absurd h (by decide))⟩
  · intro a' w' hF' hb hd
    have e50 : a'.tmps.getD 50 undef = .bool true := hd _ 50 (Array.mem_of_getElem? (i := 0) rfl) rfl rfl
    exact if_does (wanted_by rfl rfl e50 rfl) (Does.vals (r_load (hF'.at 1 rfl) (ld_RRat (vs := [.bool b10, .slice ad10 n10 c10, .slice ae10 m10 d10]) (o4.below hb) rfl rfl)) ⟨rfl, Below.refl _ _, (fun h => absurd h (by decide))⟩)
  · intro a' w' hF' hb hd
    have e50 : a'.tmps.getD 50 undef = .bool true := hd _ 50 (Array.mem_of_getElem? (i := 2) rfl) rfl rfl
    have e53 : a'.tmps.getD 53 undef = .agg #[.bool b10, .slice ad10 n10 c10, .slice ae10 m10 d10] := hd _ 53 (Array.mem_of_getElem? (i := 0) rfl) rfl rfl
    refine if_does (wanted_by rfl rfl e50 rfl) (Does.calls (r_call Try.func59 en59.1 en59.2 (map1 e53)) (dSgn_any _ (((rawZ nega1 xa1 6 : Int) : Rat) / ((rawZ negb1 xb1 6 : Int) : Rat)) 6 _ (hh7.below hb)) ?_)
    rintro e w'' ⟨rfl, bb⟩
    exact ⟨_, rfl, rfl, bb, (fun h => absurd h (by decide))⟩
  · intro a' w' hF' hb hd
    have e50 : a'.tmps.getD 50 undef = .bool true := hd _ 50 (Array.mem_of_getElem? (i := 2) rfl) rfl rfl
    have e52 : a'.tmps.getD 52 undef = .int .i64 (sz (Rat.num (((rawZ nega1 xa1 6 : Int) : Rat) / ((rawZ negb1 xb1 6 : Int) : Rat)))) := hd _ 52 (Array.mem_of_getElem? (i := 0) rfl) rfl rfl
    have e54 : a'.tmps.getD 54 undef = .int .i64 (sz (Rat.num (((rawZ nega1 xa1 6 : Int) : Rat) / ((rawZ negb1 xb1 6 : Int) : Rat)))) := hd _ 54 (Array.mem_of_getElem? (i := 1) rfl) rfl rfl
    exact if_does (wanted_by rfl rfl e50 rfl) (Does.vals (r_bin e52 e54 eg_scalar (bi_int (ic_eql (c := true) (by simp)) (by simp))) ⟨rfl, Below.refl _ _, (fun h => absurd h (by decide))⟩)
  · intro a' w' hF' hb hd
    have e50 : a'.tmps.getD 50 undef = .bool true := hd _ 50 (Array.mem_of_getElem? (i := 0) rfl) rfl rfl
    have e55 : a'.tmps.getD 55 undef = .bool true := hd _ 55 (Array.mem_of_getElem? (i := 1) rfl) rfl rfl
    exact if_does (wanted_free rfl) (Does.vals (r_pick_t e50 e55) ⟨rfl, Below.refl _ _, (fun h => absurd h (by decide))⟩)
  intro a w19 hF bb hall hne
  have e56 : a.tmps.getD 56 undef = .bool true := hall 38 56 rfl
  clear hall hne
  replace bel := below_to bel bb
  clear bb
  replace hF := hF.add e56
  clear e56
  refine E.opset (L' := [(2, .bool true), (56, .bool true), (5, .slice ad18 n18 c18), (4, .pointer (some ⟨g4, 0, none⟩)), (3, .pointer (some ⟨g3, 0, none⟩)), (11, .agg #[.bool b10, .slice ad10 n10 c10, .slice ae10 m10 d10]), (9, .agg #[.bool b8, .slice ad8 n8 c8, .slice ae8 m8 d8]), (7, .bool false), (6, .bool true), (1, .pointer (some ⟨g1, 0, none⟩)), (0, .agg #[.bool nega1, .slice aa1 na1 ca1, .bool negb1, .slice ab1 nb1 cb1])]) hF (r_assign (hF.at 0 rfl)) rfl rfl rfl rfl fun a hF => ?_
  refine E.nil ?_
  refine wp_ret ?_
  refine bodyPost_ret (res_tmp Try.results10 (hF.at 0 rfl)) hF.dfr ?_
  exact ⟨rfl, bel⟩

end Go.Proofs.Ytjgafncpahbjkaa
