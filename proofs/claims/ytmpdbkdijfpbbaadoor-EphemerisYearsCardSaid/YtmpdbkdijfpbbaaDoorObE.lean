/- EphemerisYears. -/
import Derived.Test.YtmpdbkdijfpbbaaDoorObA
import Derived.Test.YtmpdbkdijfpbbaaDoorGN
import Derived.Test.YtmpdbkdijfpbbaaDoorGJ
namespace Go.Proofs.YtmpdbkdijfpbbaaDoor
open Go.RowKit
set_option maxRecDepth 100000
set_option linter.unusedVariables false

theorem qc_le0t {p q : Rat} (h : p ≤ q) : qc p q ≤ 0 := by
  rw [qc_def]
  split
  · decide
  · split
    · grind
    · decide
theorem years_law (t : Rat) {r : Int} (h0 : -1000 ≤ r) (h1 : r ≤ 1000) : (rinto (sunV (t + pyr * ((r : Int) : Rat)) - sunV t) ((-180 : Int) : Rat) ((180 : Int) : Rat)).abs ≤ ((max r (-r) * 15 : Int) : Rat) / ((10000000 : Int) : Rat) := by
  have m := years_near t r (by omega)
  have e : ((max r (-r) * 15 : Int) : Rat) / ((10000000 : Int) : Rat) = ((r.natAbs : Nat) : Rat) * (15 / 10000000) := by
    rw [show max r (-r) = ((r.natAbs : Nat) : Int) by omega, Rat.intCast_mul, Rat.intCast_natCast, show ((15 : Int) : Rat) = 15 from rfl, show ((10000000 : Int) : Rat) = 10000000 from rfl]
    grind
  rw [e]; exact m
set_option maxHeartbeats 8000000 in
theorem years_walk (nega1 : Bool) (aa1 : Option Addr) (na1 ca1 : Nat) (xa1 : List Nat) (negb1 : Bool) (ab1 : Option Addr) (nb1 cb1 : Nat) (xb1 : List Nat) (n : Int) (w : World) (hT : TabD w) (ia1 : InX w aa1 na1 ca1 xa1) (ib1 : InX w ab1 nb1 cb1 xb1) (b1 : -9223372036854775808 ≤ n) (b2 : n ≤ 9223372036854775807) :
    Calls Tryd.prog 7 #[.agg #[.bool nega1, .slice aa1 na1 ca1, .bool negb1, .slice ab1 nb1 cb1], .int .i64 n] w (ValPost w (.bool true)) := by
  have oka1 := ia1.ok
  have okb1 := ib1.ok
  have bel : Below w.heap.size w w := Below.refl _ _
  refine E.enter (nt := 38) (L := [(0, .agg #[.bool nega1, .slice aa1 na1 ca1, .bool negb1, .slice ab1 nb1 cb1]), (1, .int .i64 n)]) Tryd.func7 rfl rfl rfl (args_cons (i := 0) rfl (args_cons (i := 1) rfl args_nil)) ?_
  intro a hF
  refine wp_seq ?_
  refine E.seq ?_
  obtain ⟨g2, w1, ge2, hr, bb, o2⟩ := own_box (P := Tryd.prog) (w := w) (cs := [.bool nega1, .slice aa1 na1 ca1, .bool negb1, .slice ab1 nb1 cb1]) (v := .agg #[.bool nega1, .slice aa1 na1 ca1, .bool negb1, .slice ab1 nb1 cb1]) 26 rfl (niB (niS (niB (niS ni0))))
  replace ge2 : w.heap.size ≤ g2 := by rw [← ge2]; exact bel.size
  refine E.opv hF (r_box (hF.at 0 rfl) hr) rfl rfl rfl rfl fun a hF => ?_
  clear hr
  replace ia1 := ia1.below bb
  replace ib1 := ib1.below bb
  replace bel := below_to bel bb
  clear bb
  refine E.opv hF (r_assign ev_c) rfl rfl rfl rfl fun a hF => ?_
  refine E.nil ?_
  refine wp_seq ?_
  refine wp_seq ?_
  refine E.seq ?_
  refine E.call hF (r_call Tryd.func31 en31.1 en31.2 map0) (live_any _) rfl rfl rfl rfl ?_
  rintro e w2 ⟨rfl, bb⟩
  refine ⟨_, rfl, ?_⟩
  intro a hF
  replace ia1 := ia1.below bb
  replace ib1 := ib1.below bb
  replace o2 := o2.below bb
  replace bel := below_to bel bb
  clear bb
  refine E.opv hF (r_un (hF.at 0 rfl) (bn_not _ false rfl)) rfl rfl rfl rfl fun a hF => ?_
  refine E.nil ?_
  refine wp_cond_false (hF.at 0 rfl) ?_
  refine wp_skip ?_
  refine E.norm ?_
  refine wp_seq ?_
  refine E.seq ?_
  refine E.opv hF (r_load (hF.at 3 rfl) (ld_Raw5 (vs := [.bool nega1, .slice aa1 na1 ca1, .bool negb1, .slice ab1 nb1 cb1]) o2 rfl rfl)) rfl rfl rfl rfl fun a hF => ?_
  refine E.call hF (r_call Tryd.func9 en9.1 en9.2 (map2 (hF.at 0 rfl) ev_c)) (Own5_any nega1 aa1 na1 ca1 xa1 negb1 ab1 nb1 cb1 xb1 2 _ ia1 ib1 (by omega)) rfl rfl rfl rfl ?_
  rintro e w3 ⟨vv4, rfl, hh5, bb⟩
  refine ⟨_, rfl, ?_⟩
  intro a hF
  replace bel := below_to bel bb
  clear bb
  obtain ⟨b6, ad6, n6, c6, ae6, m6, d6, rfl, hn6, hd6⟩ := Rq.shape hh5
  have hf7 := Wc.abs hn6
  obtain ⟨g5, w8, ge5, hr, bb, o5⟩ := own_alloc (P := Tryd.prog) (w := w3) (cs := [.bool false, .slice none 0 0, .slice none 0 0]) 32 ze_Rat rfl (niB (niS (niS ni0)))
  replace ge5 : w.heap.size ≤ g5 := by rw [← ge5]; exact bel.size
  refine E.opv hF (r_alloc hr) rfl rfl rfl rfl fun a hF => ?_
  clear hr
  replace hh5 := hh5.below bb
  replace hn6 := hn6.below bb
  replace hf7 := hf7.below bb
  replace hd6 := hd6.below bb
  replace bel := below_to bel bb
  clear bb
  obtain ⟨w9, hr, tu, on⟩ := st_Rat (vs := [.bool b6, .slice ad6 n6 c6, .slice ae6 m6 d6]) o5 rfl rfl (ocB (ocS (ocS oc0))) (niB (niS (niS ni0))) (o := 0) rfl
  have kp := tu.keep o5
  refine E.st hF (r_store (hF.at 0 rfl) (hF.at 1 rfl) (hr _ rfl)) rfl rfl fun a hF => ?_
  clear hr
  replace hh5 := hh5.keep kp
  replace hn6 := hn6.keep kp
  replace hf7 := hf7.keep kp
  replace hd6 := hd6.keep kp
  replace bel := tu.below bel ge5
  clear tu kp
  replace o5 := on
  clear on
  refine E.nil ?_
  refine wp_seq ?_
  refine E.seq ?_
  refine E.opv hF (r_move (hF.at 8 rfl)) rfl rfl rfl rfl fun a hF => ?_
  refine E.opv hF (r_bin (hF.at 0 rfl) ev_c eg_scalar (id_rem (a := n) (b := 1001) (by omega))) rfl rfl rfl rfl fun a hF => ?_
  refine E.opset (L' := [(1, .int .i64 (if 0 ≤ n then n % 1001 else -(-n % 1001))), (13, .int .i64 (if 0 ≤ n then n % 1001 else -(-n % 1001))), (12, .int .i64 n), (5, .pointer (some ⟨g5, 0, none⟩)), (11, .agg #[.bool b6, .slice ad6 n6 c6, .slice ae6 m6 d6]), (10, .agg #[.bool nega1, .slice aa1 na1 ca1, .bool negb1, .slice ab1 nb1 cb1]), (9, .bool false), (8, .bool true), (4, .bool false), (2, .pointer (some ⟨g2, 0, none⟩)), (0, .agg #[.bool nega1, .slice aa1 na1 ca1, .bool negb1, .slice ab1 nb1 cb1])]) hF (r_assign (hF.at 0 rfl)) rfl rfl rfl rfl fun a hF => ?_
  have hr0 : -1000 ≤ (if 0 ≤ n then n % 1001 else -(-n % 1001)) := by omega
  have hr1 : (if 0 ≤ n then n % 1001 else -(-n % 1001)) ≤ 1000 := by omega
  generalize (if 0 ≤ n then n % 1001 else -(-n % 1001)) = r at hF hr0 hr1
  refine E.nil ?_
  refine wp_seq ?_
  refine E.drawn 7 mixed hF [14, 15, 16, 17, 18, 19, 6] [(fun _ v => v = .agg #[.bool b6, .slice ad6 n6 c6, .slice ae6 m6 d6]), (fun w v => Rq w v (pyr)), (fun _ v => v = .int .i64 r), (fun w v => Rq w v (((r : Int) : Rat))), (fun w v => Rq w v ((pyr) * (((r : Int) : Rat)))), (fun w v => Rq w v ((((rawZ nega1 xa1 2 : Int) : Rat) / ((rawZ negb1 xb1 2 : Int) : Rat)) + ((pyr) * (((r : Int) : Rat))))), (fun w v => ∃ g, v = .pointer (some ⟨g, 0, none⟩) ∧ w9.heap.size ≤ g ∧ Own w g [.bool false, .slice none 0 0, .slice none 0 0])] [6] (by decide +kernel) (by decide +kernel) rfl rfl rfl ⟨(Mb.eq _), (fun _ _ _ h hb => h.below hb), (Mb.eq _), (fun _ _ _ h hb => h.below hb), (fun _ _ _ h hb => h.below hb), (fun _ _ _ h hb => h.below hb), (fun _ _ _ ⟨g, e, l, o⟩ hb => ⟨g, e, l, o.below hb⟩), trivial⟩ ⟨fun _ _ ⟨g, e, _, o⟩ => ⟨g, e, o.lt⟩, trivial⟩ ⟨?_, ?_, ?_, ?_, ?_, ?_, ?_, trivial⟩ ?_
  · intro a' w' hF' hb hd
    exact if_does (wanted_free rfl) (Does.vals (r_load (hF'.at 3 rfl) (ld_Rat (vs := [.bool b6, .slice ad6 n6 c6, .slice ae6 m6 d6]) (o5.below hb) rfl rfl)) ⟨rfl, Below.refl _ _, (fun h => absurd h (by decide))⟩)
  · intro a' w' hF' hb hd
    refine if_does (wanted_free rfl) (Does.calls (r_call Tryd.func32 en32.1 en32.2 map0) (mYear_any _) ?_)
    rintro e w'' ⟨v', rfl, h', bb⟩
    exact ⟨_, rfl, h', bb, (fun h => absurd h (by decide))⟩
  · intro a' w' hF' hb hd
    exact if_does (wanted_free rfl) (Does.vals (r_move (hF'.at 0 rfl)) ⟨rfl, Below.refl _ _, (fun h => absurd h (by decide))⟩)
  · intro a' w' hF' hb hd
    have e16 : a'.tmps.getD 16 undef = .int .i64 r := hd _ 16 (Array.mem_of_getElem? (i := 0) rfl) rfl rfl
    refine if_does (wanted_free rfl) (Does.calls (r_call Tryd.func19 en19.1 en19.2 (map1 e16)) (rWhole_any (r) _ (by omega) (by omega)) ?_)
    rintro e w'' ⟨v', rfl, h', bb⟩
    exact ⟨_, rfl, h', bb, (fun h => absurd h (by decide))⟩
  · intro a' w' hF' hb hd
    obtain ⟨v15_0, e15, h15_1⟩ : ∃ v, a'.tmps.getD 15 undef = v ∧ Rq w' v (pyr) := ⟨_, rfl, hd _ 15 (Array.mem_of_getElem? (i := 0) rfl) rfl rfl⟩
    obtain ⟨v17_0, e17, h17_1⟩ : ∃ v, a'.tmps.getD 17 undef = v ∧ Rq w' v (((r : Int) : Rat)) := ⟨_, rfl, hd _ 17 (Array.mem_of_getElem? (i := 1) rfl) rfl rfl⟩
    refine if_does (wanted_free rfl) (Does.calls (r_call Tryd.func33 en33.1 en33.2 (map2 e15 e17)) (rMul_any _ _ (pyr) (((r : Int) : Rat)) 2 _ h15_1 h17_1 (pyr_lim.up _ (by omega)) ((rlim_int (limz_64 (by omega) (by omega)) (by omega)).up _ (by omega)) (by omega)) ?_)
    rintro e w'' ⟨v', rfl, h', bb⟩
    exact ⟨_, rfl, h', bb, (fun h => absurd h (by decide))⟩
  · intro a' w' hF' hb hd
    have e14 : a'.tmps.getD 14 undef = .agg #[.bool b6, .slice ad6 n6 c6, .slice ae6 m6 d6] := hd _ 14 (Array.mem_of_getElem? (i := 0) rfl) rfl rfl
    obtain ⟨v18_0, e18, h18_1⟩ : ∃ v, a'.tmps.getD 18 undef = v ∧ Rq w' v ((pyr) * (((r : Int) : Rat))) := ⟨_, rfl, hd _ 18 (Array.mem_of_getElem? (i := 1) rfl) rfl rfl⟩
    refine if_does (wanted_free rfl) (Does.calls (r_call Tryd.func18 en18.1 en18.2 (map2 e14 e18)) (rAdd_any _ _ (((rawZ nega1 xa1 2 : Int) : Rat) / ((rawZ negb1 xb1 2 : Int) : Rat)) ((pyr) * (((r : Int) : Rat))) (max 2 (2 + 2)) _ (hh5.below hb) h18_1 ((own5_lim nega1 negb1 oka1 okb1 2 (by decide)).up _ (by omega)) ((rlim_mul pyr_lim (rlim_int (limz_64 (by omega) (by omega)) (by omega))).up _ (by omega)) (by omega)) ?_)
    rintro e w'' ⟨v', rfl, h', bb⟩
    exact ⟨_, rfl, h', bb, (fun h => absurd h (by decide))⟩
  · intro a' w' hF' hb hd
    obtain ⟨g, w2, ge, hr, bb, on⟩ := own_alloc (P := Tryd.prog) (w := w') (cs := [.bool false, .slice none 0 0, .slice none 0 0]) 32 ze_Rat rfl (niB (niS (niS ni0)))
    subst ge
    exact if_does (wanted_free rfl) (Does.vals (r_alloc hr) ⟨⟨_, rfl, hb.size, on⟩, bb, fun _ => rfl⟩)
  intro a w10 hF bb hall hne
  obtain ⟨vv11, e19, hh12⟩ : ∃ v, a.tmps.getD 19 undef = v ∧ Rq w10 v ((((rawZ nega1 xa1 2 : Int) : Rat) / ((rawZ negb1 xb1 2 : Int) : Rat)) + ((pyr) * (((r : Int) : Rat)))) := ⟨_, rfl, hall 5 19 rfl⟩
  obtain ⟨g6, e6, ge6, o6⟩ : ∃ g, a.tmps.getD 6 undef = .pointer (some ⟨g, 0, none⟩) ∧ w9.heap.size ≤ g ∧ Own w10 g [.bool false, .slice none 0 0, .slice none 0 0] := hall 6 6 rfl
  have ne5_6 : g5 ≠ g6 := Nat.ne_of_lt (Nat.lt_of_lt_of_le o5.lt ge6)
  replace ge6 : w.heap.size ≤ g6 := Nat.le_trans bel.size ge6
  clear hall hne
  replace hf7 := hf7.below bb
  replace hd6 := hd6.below bb
  replace hh5 := hh5.below bb
  replace hn6 := hn6.below bb
  replace o5 := o5.below bb
  replace bel := below_to bel bb
  clear bb
  obtain ⟨b13, ad13, n13, c13, ae13, m13, d13, rfl, hn13, hd13⟩ := Rq.shape hh12
  have hf14 := Wc.abs hn13
  replace hF := hF.add e19
  clear e19
  replace hF := hF.add e6
  clear e6
  obtain ⟨w15, hr, tu, on⟩ := st_Rat (vs := [.bool b13, .slice ad13 n13 c13, .slice ae13 m13 d13]) o6 rfl rfl (ocB (ocS (ocS oc0))) (niB (niS (niS ni0))) (o := 0) rfl
  have kp := tu.keep o6
  refine E.st hF (r_store (hF.at 0 rfl) (hF.at 1 rfl) (hr _ rfl)) rfl rfl fun a hF => ?_
  clear hr
  replace hf7 := hf7.keep kp
  replace hd6 := hd6.keep kp
  replace hh5 := hh5.keep kp
  replace hn6 := hn6.keep kp
  replace hh12 := hh12.keep kp
  replace hn13 := hn13.keep kp
  replace hf14 := hf14.keep kp
  replace hd13 := hd13.keep kp
  replace o5 := tu.own o5 ne5_6
  replace bel := tu.below bel ge6
  clear tu kp
  replace o6 := on
  clear on
  refine E.nil ?_
  refine wp_seq ?_
  refine E.drawn 10 mixed hF [20, 21, 22, 23, 24, 25, 26, 27, 28, 7] [(fun _ v => v = .agg #[.bool b13, .slice ad13 n13 c13, .slice ae13 m13 d13]), (fun w v => Rq w v (sunV ((((rawZ nega1 xa1 2 : Int) : Rat) / ((rawZ negb1 xb1 2 : Int) : Rat)) + ((pyr) * (((r : Int) : Rat)))))), (fun _ v => v = .agg #[.bool b6, .slice ad6 n6 c6, .slice ae6 m6 d6]), (fun w v => Rq w v (sunV (((rawZ nega1 xa1 2 : Int) : Rat) / ((rawZ negb1 xb1 2 : Int) : Rat)))), (fun w v => Rq w v ((sunV ((((rawZ nega1 xa1 2 : Int) : Rat) / ((rawZ negb1 xb1 2 : Int) : Rat)) + ((pyr) * (((r : Int) : Rat))))) - (sunV (((rawZ nega1 xa1 2 : Int) : Rat) / ((rawZ negb1 xb1 2 : Int) : Rat))))), (fun w v => Rq w v ((((-180) : Int) : Rat))), (fun w v => Rq w v (((180 : Int) : Rat))), (fun w v => Rq w v (rinto ((sunV ((((rawZ nega1 xa1 2 : Int) : Rat) / ((rawZ negb1 xb1 2 : Int) : Rat)) + ((pyr) * (((r : Int) : Rat))))) - (sunV (((rawZ nega1 xa1 2 : Int) : Rat) / ((rawZ negb1 xb1 2 : Int) : Rat)))) ((((-180) : Int) : Rat)) (((180 : Int) : Rat)))), (fun w v => Rq w v (Rat.abs (rinto ((sunV ((((rawZ nega1 xa1 2 : Int) : Rat) / ((rawZ negb1 xb1 2 : Int) : Rat)) + ((pyr) * (((r : Int) : Rat))))) - (sunV (((rawZ nega1 xa1 2 : Int) : Rat) / ((rawZ negb1 xb1 2 : Int) : Rat)))) ((((-180) : Int) : Rat)) (((180 : Int) : Rat))))), (fun w v => ∃ g, v = .pointer (some ⟨g, 0, none⟩) ∧ w15.heap.size ≤ g ∧ Own w g [.bool false, .slice none 0 0, .slice none 0 0])] [9] (by decide +kernel) (by decide +kernel) rfl rfl rfl ⟨(Mb.eq _), (fun _ _ _ h hb => h.below hb), (Mb.eq _), (fun _ _ _ h hb => h.below hb), (fun _ _ _ h hb => h.below hb), (fun _ _ _ h hb => h.below hb), (fun _ _ _ h hb => h.below hb), (fun _ _ _ h hb => h.below hb), (fun _ _ _ h hb => h.below hb), (fun _ _ _ ⟨g, e, l, o⟩ hb => ⟨g, e, l, o.below hb⟩), trivial⟩ ⟨fun _ _ ⟨g, e, _, o⟩ => ⟨g, e, o.lt⟩, trivial⟩ ⟨?_, ?_, ?_, ?_, ?_, ?_, ?_, ?_, ?_, ?_, trivial⟩ ?_
  · intro a' w' hF' hb hd
    exact if_does (wanted_free rfl) (Does.vals (r_load (hF'.at 0 rfl) (ld_Rat (vs := [.bool b13, .slice ad13 n13 c13, .slice ae13 m13 d13]) (o6.below hb) rfl rfl)) ⟨rfl, Below.refl _ _, (fun h => absurd h (by decide))⟩)
  · intro a' w' hF' hb hd
    have e20 : a'.tmps.getD 20 undef = .agg #[.bool b13, .slice ad13 n13 c13, .slice ae13 m13 d13] := hd _ 20 (Array.mem_of_getElem? (i := 0) rfl) rfl rfl
    refine if_does (wanted_free rfl) (Does.calls (r_call Tryd.func17 en17.1 en17.2 (map1 e20)) (oSun_any _ ((((rawZ nega1 xa1 2 : Int) : Rat) / ((rawZ negb1 xb1 2 : Int) : Rat)) + ((pyr) * (((r : Int) : Rat)))) (2 + (2 + 2) + 1) _ (hT.below (below_to bel hb)) (hh12.below hb) (rlim_add (own5_lim nega1 negb1 oka1 okb1 2 (by decide)) (rlim_mul pyr_lim (rlim_int (limz_64 (by omega) (by omega)) (by omega)))) (by omega)) ?_)
    rintro e w'' ⟨v', rfl, h', bb⟩
    exact ⟨_, rfl, h', bb, (fun h => absurd h (by decide))⟩
  · intro a' w' hF' hb hd
    exact if_does (wanted_free rfl) (Does.vals (r_load (hF'.at 5 rfl) (ld_Rat (vs := [.bool b6, .slice ad6 n6 c6, .slice ae6 m6 d6]) (o5.below hb) rfl rfl)) ⟨rfl, Below.refl _ _, (fun h => absurd h (by decide))⟩)
  · intro a' w' hF' hb hd
    have e22 : a'.tmps.getD 22 undef = .agg #[.bool b6, .slice ad6 n6 c6, .slice ae6 m6 d6] := hd _ 22 (Array.mem_of_getElem? (i := 0) rfl) rfl rfl
    refine if_does (wanted_free rfl) (Does.calls (r_call Tryd.func17 en17.1 en17.2 (map1 e22)) (oSun_any _ (((rawZ nega1 xa1 2 : Int) : Rat) / ((rawZ negb1 xb1 2 : Int) : Rat)) 2 _ (hT.below (below_to bel hb)) (hh5.below hb) (own5_lim nega1 negb1 oka1 okb1 2 (by decide)) (by omega)) ?_)
    rintro e w'' ⟨v', rfl, h', bb⟩
    exact ⟨_, rfl, h', bb, (fun h => absurd h (by decide))⟩
  · intro a' w' hF' hb hd
    obtain ⟨v21_0, e21, h21_1⟩ : ∃ v, a'.tmps.getD 21 undef = v ∧ Rq w' v (sunV ((((rawZ nega1 xa1 2 : Int) : Rat) / ((rawZ negb1 xb1 2 : Int) : Rat)) + ((pyr) * (((r : Int) : Rat))))) := ⟨_, rfl, hd _ 21 (Array.mem_of_getElem? (i := 0) rfl) rfl rfl⟩
    obtain ⟨v23_0, e23, h23_1⟩ : ∃ v, a'.tmps.getD 23 undef = v ∧ Rq w' v (sunV (((rawZ nega1 xa1 2 : Int) : Rat) / ((rawZ negb1 xb1 2 : Int) : Rat))) := ⟨_, rfl, hd _ 23 (Array.mem_of_getElem? (i := 1) rfl) rfl rfl⟩
    refine if_does (wanted_free rfl) (Does.calls (r_call Tryd.func25 en25.1 en25.2 (map2 e21 e23)) (rSub_any _ _ (sunV ((((rawZ nega1 xa1 2 : Int) : Rat) / ((rawZ negb1 xb1 2 : Int) : Rat)) + ((pyr) * (((r : Int) : Rat))))) (sunV (((rawZ nega1 xa1 2 : Int) : Rat) / ((rawZ negb1 xb1 2 : Int) : Rat))) (max (3 * (2 + (2 + 2) + 1) + 100) (3 * 2 + 100)) _ h21_1 h23_1 ((sunV_lim (rlim_add (own5_lim nega1 negb1 oka1 okb1 2 (by decide)) (rlim_mul pyr_lim (rlim_int (limz_64 (by omega) (by omega)) (by omega))))).up _ (by omega)) ((sunV_lim (own5_lim nega1 negb1 oka1 okb1 2 (by decide))).up _ (by omega)) (by omega)) ?_)
    rintro e w'' ⟨v', rfl, h', bb⟩
    exact ⟨_, rfl, h', bb, (fun h => absurd h (by decide))⟩
  · intro a' w' hF' hb hd
    refine if_does (wanted_free rfl) (Does.calls (r_call Tryd.func19 en19.1 en19.2 (map1 ev_c)) (rWhole_any ((-180)) _ (by decide) (by decide)) ?_)
    rintro e w'' ⟨v', rfl, h', bb⟩
    exact ⟨_, rfl, h', bb, (fun h => absurd h (by decide))⟩
  · intro a' w' hF' hb hd
    refine if_does (wanted_free rfl) (Does.calls (r_call Tryd.func19 en19.1 en19.2 (map1 ev_c)) (rWhole_any (180) _ (by decide) (by decide)) ?_)
    rintro e w'' ⟨v', rfl, h', bb⟩
    exact ⟨_, rfl, h', bb, (fun h => absurd h (by decide))⟩
  · intro a' w' hF' hb hd
    obtain ⟨v24_0, e24, h24_1⟩ : ∃ v, a'.tmps.getD 24 undef = v ∧ Rq w' v ((sunV ((((rawZ nega1 xa1 2 : Int) : Rat) / ((rawZ negb1 xb1 2 : Int) : Rat)) + ((pyr) * (((r : Int) : Rat))))) - (sunV (((rawZ nega1 xa1 2 : Int) : Rat) / ((rawZ negb1 xb1 2 : Int) : Rat)))) := ⟨_, rfl, hd _ 24 (Array.mem_of_getElem? (i := 0) rfl) rfl rfl⟩
    obtain ⟨v25_0, e25, h25_1⟩ : ∃ v, a'.tmps.getD 25 undef = v ∧ Rq w' v ((((-180) : Int) : Rat)) := ⟨_, rfl, hd _ 25 (Array.mem_of_getElem? (i := 1) rfl) rfl rfl⟩
    obtain ⟨v26_0, e26, h26_1⟩ : ∃ v, a'.tmps.getD 26 undef = v ∧ Rq w' v (((180 : Int) : Rat)) := ⟨_, rfl, hd _ 26 (Array.mem_of_getElem? (i := 2) rfl) rfl rfl⟩
    refine if_does (wanted_free rfl) (Does.calls (r_call Tryd.func34 en34.1 en34.2 (map3 e24 e25 e26)) (cInto_any _ _ _ ((sunV ((((rawZ nega1 xa1 2 : Int) : Rat) / ((rawZ negb1 xb1 2 : Int) : Rat)) + ((pyr) * (((r : Int) : Rat))))) - (sunV (((rawZ nega1 xa1 2 : Int) : Rat) / ((rawZ negb1 xb1 2 : Int) : Rat)))) ((((-180) : Int) : Rat)) (((180 : Int) : Rat)) ((3 * (2 + (2 + 2) + 1) + 100) + (3 * 2 + 100) + 1) 2 2 _ h24_1 h25_1 h26_1 (rlim_sub (sunV_lim (rlim_add (own5_lim nega1 negb1 oka1 okb1 2 (by decide)) (rlim_mul pyr_lim (rlim_int (limz_64 (by omega) (by omega)) (by omega))))) (sunV_lim (own5_lim nega1 negb1 oka1 okb1 2 (by decide)))) (rlim_int (limz_64 (by decide) (by decide)) (by omega)) (rlim_int (limz_64 (by decide) (by decide)) (by omega)) (by omega) (by omega) (by omega)) ?_)
    rintro e w'' ⟨v', rfl, h', bb⟩
    exact ⟨_, rfl, h', bb, (fun h => absurd h (by decide))⟩
  · intro a' w' hF' hb hd
    obtain ⟨v27_0, e27, h27_1⟩ : ∃ v, a'.tmps.getD 27 undef = v ∧ Rq w' v (rinto ((sunV ((((rawZ nega1 xa1 2 : Int) : Rat) / ((rawZ negb1 xb1 2 : Int) : Rat)) + ((pyr) * (((r : Int) : Rat))))) - (sunV (((rawZ nega1 xa1 2 : Int) : Rat) / ((rawZ negb1 xb1 2 : Int) : Rat)))) ((((-180) : Int) : Rat)) (((180 : Int) : Rat))) := ⟨_, rfl, hd _ 27 (Array.mem_of_getElem? (i := 0) rfl) rfl rfl⟩
    refine if_does (wanted_free rfl) (Does.calls (r_call Tryd.func13 en13.1 en13.2 (map1 e27)) (rAbs_any _ (rinto ((sunV ((((rawZ nega1 xa1 2 : Int) : Rat) / ((rawZ negb1 xb1 2 : Int) : Rat)) + ((pyr) * (((r : Int) : Rat))))) - (sunV (((rawZ nega1 xa1 2 : Int) : Rat) / ((rawZ negb1 xb1 2 : Int) : Rat)))) ((((-180) : Int) : Rat)) (((180 : Int) : Rat))) _ h27_1) ?_)
    rintro e w'' ⟨v', rfl, h', bb⟩
    exact ⟨_, rfl, h', bb, (fun h => absurd h (by decide))⟩
  · intro a' w' hF' hb hd
    obtain ⟨g, w2, ge, hr, bb, on⟩ := own_alloc (P := Tryd.prog) (w := w') (cs := [.bool false, .slice none 0 0, .slice none 0 0]) 32 ze_Rat rfl (niB (niS (niS ni0)))
    subst ge
    exact if_does (wanted_free rfl) (Does.vals (r_alloc hr) ⟨⟨_, rfl, hb.size, on⟩, bb, fun _ => rfl⟩)
  intro a w16 hF bb hall hne
  obtain ⟨vv17, e28, hh18⟩ : ∃ v, a.tmps.getD 28 undef = v ∧ Rq w16 v (Rat.abs (rinto ((sunV ((((rawZ nega1 xa1 2 : Int) : Rat) / ((rawZ negb1 xb1 2 : Int) : Rat)) + ((pyr) * (((r : Int) : Rat))))) - (sunV (((rawZ nega1 xa1 2 : Int) : Rat) / ((rawZ negb1 xb1 2 : Int) : Rat)))) ((((-180) : Int) : Rat)) (((180 : Int) : Rat)))) := ⟨_, rfl, hall 8 28 rfl⟩
  obtain ⟨g7, e7, ge7, o7⟩ : ∃ g, a.tmps.getD 7 undef = .pointer (some ⟨g, 0, none⟩) ∧ w15.heap.size ≤ g ∧ Own w16 g [.bool false, .slice none 0 0, .slice none 0 0] := hall 9 7 rfl
  replace ge7 : w.heap.size ≤ g7 := Nat.le_trans bel.size ge7
  clear hall hne
  replace bel := below_to bel bb
  clear bb
  obtain ⟨b19, ad19, n19, c19, ae19, m19, d19, rfl, hn19, hd19⟩ := Rq.shape hh18
  have hf20 := Wc.abs hn19
  replace hF := hF.add e28
  clear e28
  replace hF := hF.add e7
  clear e7
  obtain ⟨w21, hr, tu, on⟩ := st_Rat (vs := [.bool b19, .slice ad19 n19 c19, .slice ae19 m19 d19]) o7 rfl rfl (ocB (ocS (ocS oc0))) (niB (niS (niS ni0))) (o := 0) rfl
  have kp := tu.keep o7
  refine E.st hF (r_store (hF.at 0 rfl) (hF.at 1 rfl) (hr _ rfl)) rfl rfl fun a hF => ?_
  clear hr
  replace hh18 := hh18.keep kp
  replace hn19 := hn19.keep kp
  replace hf20 := hf20.keep kp
  replace hd19 := hd19.keep kp
  replace bel := tu.below bel ge7
  clear tu kp
  replace o7 := on
  clear on
  refine E.nil ?_
  refine wp_seq ?_
  refine E.drawn 9 mixed hF [29, 30, 31, 32, 33, 34, 35, 36, 37] [(fun _ v => v = .agg #[.bool b19, .slice ad19 n19 c19, .slice ae19 m19 d19]), (fun _ v => v = .int .i64 r), (fun _ v => v = .int .i64 r), (fun _ v => v = .int .i64 (-r)), (fun _ v => v = .int .i64 (max r (-r))), (fun _ v => v = .int .i64 ((max r (-r)) * 15)), (fun w v => Rq w v ((((max r (-r)) * 15 : Int) : Rat) / ((10000000 : Int) : Rat))), (fun _ v => v = .int .i64 (qc (Rat.abs (rinto ((sunV ((((rawZ nega1 xa1 2 : Int) : Rat) / ((rawZ negb1 xb1 2 : Int) : Rat)) + ((pyr) * (((r : Int) : Rat))))) - (sunV (((rawZ nega1 xa1 2 : Int) : Rat) / ((rawZ negb1 xb1 2 : Int) : Rat)))) ((((-180) : Int) : Rat)) (((180 : Int) : Rat)))) ((((max r (-r)) * 15 : Int) : Rat) / ((10000000 : Int) : Rat)))), (fun _ v => v = .bool true)] [] (by decide +kernel) (by decide +kernel) rfl rfl rfl ⟨(Mb.eq _), (Mb.eq _), (Mb.eq _), (Mb.eq _), (Mb.eq _), (Mb.eq _), (fun _ _ _ h hb => h.below hb), (Mb.eq _), (Mb.eq _), trivial⟩ trivial ⟨?_, ?_, ?_, ?_, ?_, ?_, ?_, ?_, ?_, trivial⟩ ?_
  · intro a' w' hF' hb hd
    exact if_does (wanted_free rfl) (Does.vals (r_load (hF'.at 0 rfl) (ld_Rat (vs := [.bool b19, .slice ad19 n19 c19, .slice ae19 m19 d19]) (o7.below hb) rfl rfl)) ⟨rfl, Below.refl _ _, (fun h => absurd h (by decide))⟩)
  · intro a' w' hF' hb hd
    exact if_does (wanted_free rfl) (Does.vals (r_move (hF'.at 4 rfl)) ⟨rfl, Below.refl _ _, (fun h => absurd h (by decide))⟩)
  · intro a' w' hF' hb hd
    exact if_does (wanted_free rfl) (Does.vals (r_move (hF'.at 4 rfl)) ⟨rfl, Below.refl _ _, (fun h => absurd h (by decide))⟩)
  · intro a' w' hF' hb hd
    have e31 : a'.tmps.getD 31 undef = .int .i64 r := hd _ 31 (Array.mem_of_getElem? (i := 0) rfl) rfl rfl
    exact if_does (wanted_free rfl) (Does.vals (r_un e31 (bn_neg (by omega) (by omega))) ⟨rfl, Below.refl _ _, (fun h => absurd h (by decide))⟩)
  · intro a' w' hF' hb hd
    have e30 : a'.tmps.getD 30 undef = .int .i64 r := hd _ 30 (Array.mem_of_getElem? (i := 0) rfl) rfl rfl
    have e32 : a'.tmps.getD 32 undef = .int .i64 (-r) := hd _ 32 (Array.mem_of_getElem? (i := 1) rfl) rfl rfl
    exact if_does (wanted_free rfl) (Does.vals (r_builtin (map2 e30 e32) bl_max) ⟨rfl, Below.refl _ _, (fun h => absurd h (by decide))⟩)
  · intro a' w' hF' hb hd
    have e33 : a'.tmps.getD 33 undef = .int .i64 (max r (-r)) := hd _ 33 (Array.mem_of_getElem? (i := 0) rfl) rfl rfl
    exact if_does (wanted_free rfl) (Does.vals (r_bin e33 ev_c eg_scalar (ia_mul (by omega) (by omega))) ⟨rfl, Below.refl _ _, (fun h => absurd h (by decide))⟩)
  · intro a' w' hF' hb hd
    have e34 : a'.tmps.getD 34 undef = .int .i64 ((max r (-r)) * 15) := hd _ 34 (Array.mem_of_getElem? (i := 0) rfl) rfl rfl
    refine if_does (wanted_free rfl) (Does.calls (r_call Tryd.func15 en15.1 en15.2 (map2 e34 ev_c)) (rOf2_any ((max r (-r)) * 15) (10000000) _ (by omega) (by omega) (by decide) (by decide)) ?_)
    rintro e w'' ⟨v', rfl, h', bb⟩
    exact ⟨_, rfl, h', bb, (fun h => absurd h (by decide))⟩
  · intro a' w' hF' hb hd
    have e29 : a'.tmps.getD 29 undef = .agg #[.bool b19, .slice ad19 n19 c19, .slice ae19 m19 d19] := hd _ 29 (Array.mem_of_getElem? (i := 0) rfl) rfl rfl
    obtain ⟨v35_0, e35, h35_1⟩ : ∃ v, a'.tmps.getD 35 undef = v ∧ Rq w' v ((((max r (-r)) * 15 : Int) : Rat) / ((10000000 : Int) : Rat)) := ⟨_, rfl, hd _ 35 (Array.mem_of_getElem? (i := 1) rfl) rfl rfl⟩
    refine if_does (wanted_free rfl) (Does.calls (r_call Tryd.func14 en14.1 en14.2 (map2 e29 e35)) (rCmp_any _ _ (Rat.abs (rinto ((sunV ((((rawZ nega1 xa1 2 : Int) : Rat) / ((rawZ negb1 xb1 2 : Int) : Rat)) + ((pyr) * (((r : Int) : Rat))))) - (sunV (((rawZ nega1 xa1 2 : Int) : Rat) / ((rawZ negb1 xb1 2 : Int) : Rat)))) ((((-180) : Int) : Rat)) (((180 : Int) : Rat)))) ((((max r (-r)) * 15 : Int) : Rat) / ((10000000 : Int) : Rat)) (max (2 * ((3 * (2 + (2 + 2) + 1) + 100) + (3 * 2 + 100) + 1) + 5 * 2 + 2 * 2 + 8) 2) _ (hh18.below hb) h35_1 ((rlim_abs (rinto_lim (k := ((3 * (2 + (2 + 2) + 1) + 100) + (3 * 2 + 100) + 1)) (j := 2) (i := 2) (rlim_sub (sunV_lim (rlim_add (own5_lim nega1 negb1 oka1 okb1 2 (by decide)) (rlim_mul pyr_lim (rlim_int (limz_64 (by omega) (by omega)) (by omega))))) (sunV_lim (own5_lim nega1 negb1 oka1 okb1 2 (by decide)))) (rlim_int (limz_64 (by decide) (by decide)) (by omega)) (rlim_int (limz_64 (by decide) (by decide)) (by omega)))).up _ (by omega)) ((RLim.up (rlim_mk2 (limz_64 (by omega) (by omega)) (limz_64 (by decide) (by decide))) 2 (by decide)).up _ (by omega)) (by omega)) ?_)
    rintro e w'' ⟨rfl, bb⟩
    exact ⟨_, rfl, rfl, bb, (fun h => absurd h (by decide))⟩
  · intro a' w' hF' hb hd
    have e36 : a'.tmps.getD 36 undef = .int .i64 (qc (Rat.abs (rinto ((sunV ((((rawZ nega1 xa1 2 : Int) : Rat) / ((rawZ negb1 xb1 2 : Int) : Rat)) + ((pyr) * (((r : Int) : Rat))))) - (sunV (((rawZ nega1 xa1 2 : Int) : Rat) / ((rawZ negb1 xb1 2 : Int) : Rat)))) ((((-180) : Int) : Rat)) (((180 : Int) : Rat)))) ((((max r (-r)) * 15 : Int) : Rat) / ((10000000 : Int) : Rat))) := hd _ 36 (Array.mem_of_getElem? (i := 0) rfl) rfl rfl
    exact if_does (wanted_free rfl) (Does.vals (r_bin e36 ev_c eg_scalar (bi_int (ic_leq (c := true) (dec_tt (qc_le0t (years_law _ hr0 hr1)))) (by simp))) ⟨rfl, Below.refl _ _, (fun h => absurd h (by decide))⟩)
  intro a w22 hF bb hall hne
  have e37 : a.tmps.getD 37 undef = .bool true := hall 8 37 rfl
  clear hall hne
  replace bel := below_to bel bb
  clear bb
  replace hF := hF.add e37
  clear e37
  refine E.opset (L' := [(4, .bool true), (37, .bool true), (7, .pointer (some ⟨g7, 0, none⟩)), (28, .agg #[.bool b19, .slice ad19 n19 c19, .slice ae19 m19 d19]), (6, .pointer (some ⟨g6, 0, none⟩)), (19, .agg #[.bool b13, .slice ad13 n13 c13, .slice ae13 m13 d13]), (1, .int .i64 r), (13, .int .i64 r), (12, .int .i64 n), (5, .pointer (some ⟨g5, 0, none⟩)), (11, .agg #[.bool b6, .slice ad6 n6 c6, .slice ae6 m6 d6]), (10, .agg #[.bool nega1, .slice aa1 na1 ca1, .bool negb1, .slice ab1 nb1 cb1]), (9, .bool false), (8, .bool true), (2, .pointer (some ⟨g2, 0, none⟩)), (0, .agg #[.bool nega1, .slice aa1 na1 ca1, .bool negb1, .slice ab1 nb1 cb1])]) hF (r_assign (hF.at 0 rfl)) rfl rfl rfl rfl fun a hF => ?_
  refine E.nil ?_
  refine wp_ret ?_
  refine bodyPost_ret (res_tmp Tryd.results7 (hF.at 0 rfl)) hF.dfr ?_
  exact ⟨rfl, bel⟩

end Go.Proofs.YtmpdbkdijfpbbaaDoor
