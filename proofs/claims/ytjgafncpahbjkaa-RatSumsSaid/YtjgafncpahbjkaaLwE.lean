/- The walk of RatSums. -/
import Derived.Test.YtjgafncpahbjkaaGJ
import Derived.Test.YtjgafncpahbjkaaGI
namespace Go.Proofs.Ytjgafncpahbjkaa
open Go.RowKit
set_option maxRecDepth 100000
set_option linter.unusedVariables false

theorem same_qc (a b : Rat) : (decide (a = b) == decide (qc a b = 0)) = true := by
  have h : a = b ↔ qc a b = 0 := by
    rw [qc_def]
    constructor
    · intro e; subst e; simp [Rat.lt_irrefl]
    · intro e
      split at e
      · omega
      · split at e
        · omega
        · rename_i h1 h2
          exact Rat.le_antisymm (Rat.not_lt.1 h2) (Rat.not_lt.1 h1)
  by_cases e : a = b
  · rw [decide_eq_true e, decide_eq_true (h.1 e)]; rfl
  · rw [decide_eq_false e, decide_eq_false (fun e' => e (h.2 e'))]; rfl
set_option maxHeartbeats 8000000 in
theorem ratSums_walk (nega1 : Bool) (aa1 : Option Addr) (na1 ca1 : Nat) (xa1 : List Nat) (negb1 : Bool) (ab1 : Option Addr) (nb1 cb1 : Nat) (xb1 : List Nat) (nega2 : Bool) (aa2 : Option Addr) (na2 ca2 : Nat) (xa2 : List Nat) (negb2 : Bool) (ab2 : Option Addr) (nb2 cb2 : Nat) (xb2 : List Nat) (w : World) (ia1 : InX w aa1 na1 ca1 xa1) (ib1 : InX w ab1 nb1 cb1 xb1) (ia2 : InX w aa2 na2 ca2 xa2) (ib2 : InX w ab2 nb2 cb2 xb2) :
    Calls Try.prog 11 #[.agg #[.bool nega1, .slice aa1 na1 ca1, .bool negb1, .slice ab1 nb1 cb1], .agg #[.bool nega2, .slice aa2 na2 ca2, .bool negb2, .slice ab2 nb2 cb2]] w (TruePost w) := by
  have oka1 := ia1.ok
  have okb1 := ib1.ok
  have oka2 := ia2.ok
  have okb2 := ib2.ok
  have bel : Below w.heap.size w w := Below.refl _ _
  refine E.enter (nt := 92) (L := [(0, .agg #[.bool nega1, .slice aa1 na1 ca1, .bool negb1, .slice ab1 nb1 cb1]), (1, .agg #[.bool nega2, .slice aa2 na2 ca2, .bool negb2, .slice ab2 nb2 cb2])]) Try.func11 rfl rfl rfl (args_cons (i := 0) rfl (args_cons (i := 1) rfl args_nil)) ?_
  intro a hF
  refine wp_seq ?_
  refine E.seq ?_
  obtain ⟨g2, w1, ge2, hr, bb, o2⟩ := own_box (P := Try.prog) (w := w) (cs := [.bool nega1, .slice aa1 na1 ca1, .bool negb1, .slice ab1 nb1 cb1]) (v := .agg #[.bool nega1, .slice aa1 na1 ca1, .bool negb1, .slice ab1 nb1 cb1]) 74 rfl (niB (niS (niB (niS ni0))))
  replace ge2 : w.heap.size ≤ g2 := by rw [← ge2]; exact bel.size
  refine E.opv hF (r_box (hF.at 0 rfl) hr) rfl rfl rfl rfl fun a hF => ?_
  clear hr
  replace ia2 := ia2.below bb
  replace ib2 := ib2.below bb
  replace ia1 := ia1.below bb
  replace ib1 := ib1.below bb
  replace bel := below_to bel bb
  clear bb
  obtain ⟨g3, w2, ge3, hr, bb, o3⟩ := own_box (P := Try.prog) (w := w1) (cs := [.bool nega2, .slice aa2 na2 ca2, .bool negb2, .slice ab2 nb2 cb2]) (v := .agg #[.bool nega2, .slice aa2 na2 ca2, .bool negb2, .slice ab2 nb2 cb2]) 74 rfl (niB (niS (niB (niS ni0))))
  have ne2_3 : g2 ≠ g3 := by rw [← ge3]; exact o2.ne_new
  replace ge3 : w.heap.size ≤ g3 := by rw [← ge3]; exact bel.size
  refine E.opv hF (r_box (hF.at 2 rfl) hr) rfl rfl rfl rfl fun a hF => ?_
  clear hr
  replace ia1 := ia1.below bb
  replace ib1 := ib1.below bb
  replace ia2 := ia2.below bb
  replace ib2 := ib2.below bb
  replace o2 := o2.below bb
  replace bel := below_to bel bb
  clear bb
  refine E.opv hF (r_assign ev_c) rfl rfl rfl rfl fun a hF => ?_
  refine E.nil ?_
  refine wp_seq ?_
  refine wp_seq ?_
  refine E.seq ?_
  refine E.call hF (r_call Try.func45 en45.1 en45.2 map0) (awake5_any _) rfl rfl rfl rfl ?_
  rintro e w3 ⟨rfl, bb⟩
  refine ⟨_, rfl, ?_⟩
  intro a hF
  replace ia1 := ia1.below bb
  replace ib1 := ib1.below bb
  replace ia2 := ia2.below bb
  replace ib2 := ib2.below bb
  replace o2 := o2.below bb
  replace o3 := o3.below bb
  replace bel := below_to bel bb
  clear bb
  refine E.opv hF (r_un (hF.at 0 rfl) (bn_not _ false rfl)) rfl rfl rfl rfl fun a hF => ?_
  refine E.nil ?_
  refine wp_cond_false (hF.at 0 rfl) ?_
  refine wp_skip ?_
  refine E.norm ?_
  refine wp_seq ?_
  refine E.drawn 12 mixed hF [11, 12, 13, 14, 15, 16, 17, 18, 5, 6, 7, 8] [(fun _ v => v = .agg #[.bool nega1, .slice aa1 na1 ca1, .bool negb1, .slice ab1 nb1 cb1]), (fun w v => Rq w v (((rawZ nega1 xa1 5 : Int) : Rat) / ((rawZ negb1 xb1 5 : Int) : Rat))), (fun _ v => v = .agg #[.bool nega2, .slice aa2 na2 ca2, .bool negb2, .slice ab2 nb2 cb2]), (fun w v => Rq w v (((rawZ nega2 xa2 5 : Int) : Rat) / ((rawZ negb2 xb2 5 : Int) : Rat))), (fun _ v => v = .agg #[.bool nega1, .slice aa1 na1 ca1, .bool negb1, .slice ab1 nb1 cb1]), (fun w v => Rr w v (((rawZ nega1 xa1 5 : Int) : Rat) / ((rawZ negb1 xb1 5 : Int) : Rat)) (5)), (fun _ v => v = .agg #[.bool nega2, .slice aa2 na2 ca2, .bool negb2, .slice ab2 nb2 cb2]), (fun w v => Rr w v (((rawZ nega2 xa2 5 : Int) : Rat) / ((rawZ negb2 xb2 5 : Int) : Rat)) (5)), (fun w v => ∃ g, v = .pointer (some ⟨g, 0, none⟩) ∧ w3.heap.size ≤ g ∧ Own w g [.bool false, .slice none 0 0, .slice none 0 0]), (fun w v => ∃ g, v = .pointer (some ⟨g, 0, none⟩) ∧ w3.heap.size ≤ g ∧ Own w g [.bool false, .slice none 0 0, .slice none 0 0]), (fun w v => ∃ g, v = .pointer (some ⟨g, 0, none⟩) ∧ w3.heap.size ≤ g ∧ Own w g [.bool false, .slice none 0 0, .slice none 0 0]), (fun w v => ∃ g, v = .pointer (some ⟨g, 0, none⟩) ∧ w3.heap.size ≤ g ∧ Own w g [.bool false, .slice none 0 0, .slice none 0 0])] [8, 9, 10, 11] (by decide +kernel) (by decide +kernel) rfl rfl rfl ⟨(Mb.eq _), (fun _ _ _ h hb => h.below hb), (Mb.eq _), (fun _ _ _ h hb => h.below hb), (Mb.eq _), (fun _ _ _ h hb => h.below hb), (Mb.eq _), (fun _ _ _ h hb => h.below hb), (fun _ _ _ ⟨g, e, l, o⟩ hb => ⟨g, e, l, o.below hb⟩), (fun _ _ _ ⟨g, e, l, o⟩ hb => ⟨g, e, l, o.below hb⟩), (fun _ _ _ ⟨g, e, l, o⟩ hb => ⟨g, e, l, o.below hb⟩), (fun _ _ _ ⟨g, e, l, o⟩ hb => ⟨g, e, l, o.below hb⟩), trivial⟩ ⟨fun _ _ ⟨g, e, _, o⟩ => ⟨g, e, o.lt⟩, ⟨fun _ _ ⟨g, e, _, o⟩ => ⟨g, e, o.lt⟩, ⟨fun _ _ ⟨g, e, _, o⟩ => ⟨g, e, o.lt⟩, ⟨fun _ _ ⟨g, e, _, o⟩ => ⟨g, e, o.lt⟩, trivial⟩⟩⟩⟩ ⟨?_, ?_, ?_, ?_, ?_, ?_, ?_, ?_, ?_, ?_, ?_, ?_, trivial⟩ ?_
  · intro a' w' hF' hb hd
    exact if_does (wanted_free rfl) (Does.vals (r_load (hF'.at 4 rfl) (ld_Raw5 (vs := [.bool nega1, .slice aa1 na1 ca1, .bool negb1, .slice ab1 nb1 cb1]) (o2.below hb) rfl rfl)) ⟨rfl, Below.refl _ _, (fun h => absurd h (by decide))⟩)
  · intro a' w' hF' hb hd
    have e11 : a'.tmps.getD 11 undef = .agg #[.bool nega1, .slice aa1 na1 ca1, .bool negb1, .slice ab1 nb1 cb1] := hd _ 11 (Array.mem_of_getElem? (i := 0) rfl) rfl rfl
    refine if_does (wanted_free rfl) (Does.calls (r_call Try.func46 en46.1 en46.2 (map2 e11 ev_c)) (Own5_any nega1 aa1 na1 ca1 xa1 negb1 ab1 nb1 cb1 xb1 5 _ (ia1.below hb) (ib1.below hb) (by omega)) ?_)
    rintro e w'' ⟨v', rfl, h', bb⟩
    exact ⟨_, rfl, h', bb, (fun h => absurd h (by decide))⟩
  · intro a' w' hF' hb hd
    exact if_does (wanted_free rfl) (Does.vals (r_load (hF'.at 3 rfl) (ld_Raw5 (vs := [.bool nega2, .slice aa2 na2 ca2, .bool negb2, .slice ab2 nb2 cb2]) (o3.below hb) rfl rfl)) ⟨rfl, Below.refl _ _, (fun h => absurd h (by decide))⟩)
  · intro a' w' hF' hb hd
    have e13 : a'.tmps.getD 13 undef = .agg #[.bool nega2, .slice aa2 na2 ca2, .bool negb2, .slice ab2 nb2 cb2] := hd _ 13 (Array.mem_of_getElem? (i := 0) rfl) rfl rfl
    refine if_does (wanted_free rfl) (Does.calls (r_call Try.func46 en46.1 en46.2 (map2 e13 ev_c)) (Own5_any nega2 aa2 na2 ca2 xa2 negb2 ab2 nb2 cb2 xb2 5 _ (ia2.below hb) (ib2.below hb) (by omega)) ?_)
    rintro e w'' ⟨v', rfl, h', bb⟩
    exact ⟨_, rfl, h', bb, (fun h => absurd h (by decide))⟩
  · intro a' w' hF' hb hd
    exact if_does (wanted_free rfl) (Does.vals (r_load (hF'.at 4 rfl) (ld_Raw5 (vs := [.bool nega1, .slice aa1 na1 ca1, .bool negb1, .slice ab1 nb1 cb1]) (o2.below hb) rfl rfl)) ⟨rfl, Below.refl _ _, (fun h => absurd h (by decide))⟩)
  · intro a' w' hF' hb hd
    have e15 : a'.tmps.getD 15 undef = .agg #[.bool nega1, .slice aa1 na1 ca1, .bool negb1, .slice ab1 nb1 cb1] := hd _ 15 (Array.mem_of_getElem? (i := 0) rfl) rfl rfl
    refine if_does (wanted_free rfl) (Does.calls (r_call Try.func47 en47.1 en47.2 (map2 e15 ev_c)) (Told5_any nega1 aa1 na1 ca1 xa1 negb1 ab1 nb1 cb1 xb1 5 _ (ia1.below hb) (ib1.below hb) (by omega) (by omega)) ?_)
    rintro e w'' ⟨v', rfl, h', bb⟩
    exact ⟨_, rfl, h', bb, (fun h => absurd h (by decide))⟩
  · intro a' w' hF' hb hd
    exact if_does (wanted_free rfl) (Does.vals (r_load (hF'.at 3 rfl) (ld_Raw5 (vs := [.bool nega2, .slice aa2 na2 ca2, .bool negb2, .slice ab2 nb2 cb2]) (o3.below hb) rfl rfl)) ⟨rfl, Below.refl _ _, (fun h => absurd h (by decide))⟩)
  · intro a' w' hF' hb hd
    have e17 : a'.tmps.getD 17 undef = .agg #[.bool nega2, .slice aa2 na2 ca2, .bool negb2, .slice ab2 nb2 cb2] := hd _ 17 (Array.mem_of_getElem? (i := 0) rfl) rfl rfl
    refine if_does (wanted_free rfl) (Does.calls (r_call Try.func47 en47.1 en47.2 (map2 e17 ev_c)) (Told5_any nega2 aa2 na2 ca2 xa2 negb2 ab2 nb2 cb2 xb2 5 _ (ia2.below hb) (ib2.below hb) (by omega) (by omega)) ?_)
    rintro e w'' ⟨v', rfl, h', bb⟩
    exact ⟨_, rfl, h', bb, (fun h => absurd h (by decide))⟩
  · intro a' w' hF' hb hd
    obtain ⟨g, w2, ge, hr, bb, on⟩ := own_alloc (P := Try.prog) (w := w') (cs := [.bool false, .slice none 0 0, .slice none 0 0]) 76 ze_Rat rfl (niB (niS (niS ni0)))
    subst ge
    exact if_does (wanted_free rfl) (Does.vals (r_alloc hr) ⟨⟨_, rfl, hb.size, on⟩, bb, fun _ => rfl⟩)
  · intro a' w' hF' hb hd
    obtain ⟨g, w2, ge, hr, bb, on⟩ := own_alloc (P := Try.prog) (w := w') (cs := [.bool false, .slice none 0 0, .slice none 0 0]) 76 ze_Rat rfl (niB (niS (niS ni0)))
    subst ge
    exact if_does (wanted_free rfl) (Does.vals (r_alloc hr) ⟨⟨_, rfl, hb.size, on⟩, bb, fun _ => rfl⟩)
  · intro a' w' hF' hb hd
    obtain ⟨g, w2, ge, hr, bb, on⟩ := own_alloc (P := Try.prog) (w := w') (cs := [.bool false, .slice none 0 0, .slice none 0 0]) 79 ze_RRat rfl (niB (niS (niS ni0)))
    subst ge
    exact if_does (wanted_free rfl) (Does.vals (r_alloc hr) ⟨⟨_, rfl, hb.size, on⟩, bb, fun _ => rfl⟩)
  · intro a' w' hF' hb hd
    obtain ⟨g, w2, ge, hr, bb, on⟩ := own_alloc (P := Try.prog) (w := w') (cs := [.bool false, .slice none 0 0, .slice none 0 0]) 79 ze_RRat rfl (niB (niS (niS ni0)))
    subst ge
    exact if_does (wanted_free rfl) (Does.vals (r_alloc hr) ⟨⟨_, rfl, hb.size, on⟩, bb, fun _ => rfl⟩)
  intro a w4 hF bb hall hne
  obtain ⟨vv5, e12, hh6⟩ : ∃ v, a.tmps.getD 12 undef = v ∧ Rq w4 v (((rawZ nega1 xa1 5 : Int) : Rat) / ((rawZ negb1 xb1 5 : Int) : Rat)) := ⟨_, rfl, hall 1 12 rfl⟩
  obtain ⟨vv7, e14, hh8⟩ : ∃ v, a.tmps.getD 14 undef = v ∧ Rq w4 v (((rawZ nega2 xa2 5 : Int) : Rat) / ((rawZ negb2 xb2 5 : Int) : Rat)) := ⟨_, rfl, hall 3 14 rfl⟩
  obtain ⟨vv9, e16, hh10⟩ : ∃ v, a.tmps.getD 16 undef = v ∧ Rr w4 v (((rawZ nega1 xa1 5 : Int) : Rat) / ((rawZ negb1 xb1 5 : Int) : Rat)) (5) := ⟨_, rfl, hall 5 16 rfl⟩
  obtain ⟨vv11, e18, hh12⟩ : ∃ v, a.tmps.getD 18 undef = v ∧ Rr w4 v (((rawZ nega2 xa2 5 : Int) : Rat) / ((rawZ negb2 xb2 5 : Int) : Rat)) (5) := ⟨_, rfl, hall 7 18 rfl⟩
  obtain ⟨g5, e5, ge5, o5⟩ : ∃ g, a.tmps.getD 5 undef = .pointer (some ⟨g, 0, none⟩) ∧ w3.heap.size ≤ g ∧ Own w4 g [.bool false, .slice none 0 0, .slice none 0 0] := hall 8 5 rfl
  have ne2_5 : g2 ≠ g5 := Nat.ne_of_lt (Nat.lt_of_lt_of_le o2.lt ge5)
  obtain ⟨g6, e6, ge6, o6⟩ : ∃ g, a.tmps.getD 6 undef = .pointer (some ⟨g, 0, none⟩) ∧ w3.heap.size ≤ g ∧ Own w4 g [.bool false, .slice none 0 0, .slice none 0 0] := hall 9 6 rfl
  have ne2_6 : g2 ≠ g6 := Nat.ne_of_lt (Nat.lt_of_lt_of_le o2.lt ge6)
  have ne5_6 : g5 ≠ g6 := by intro e; exact hne 8 9 5 6 rfl rfl (by decide) rfl rfl (by rw [e5, e6, e])
  obtain ⟨g7, e7, ge7, o7⟩ : ∃ g, a.tmps.getD 7 undef = .pointer (some ⟨g, 0, none⟩) ∧ w3.heap.size ≤ g ∧ Own w4 g [.bool false, .slice none 0 0, .slice none 0 0] := hall 10 7 rfl
  have ne2_7 : g2 ≠ g7 := Nat.ne_of_lt (Nat.lt_of_lt_of_le o2.lt ge7)
  have ne5_7 : g5 ≠ g7 := by intro e; exact hne 8 10 5 7 rfl rfl (by decide) rfl rfl (by rw [e5, e7, e])
  have ne6_7 : g6 ≠ g7 := by intro e; exact hne 9 10 6 7 rfl rfl (by decide) rfl rfl (by rw [e6, e7, e])
  obtain ⟨g8, e8, ge8, o8⟩ : ∃ g, a.tmps.getD 8 undef = .pointer (some ⟨g, 0, none⟩) ∧ w3.heap.size ≤ g ∧ Own w4 g [.bool false, .slice none 0 0, .slice none 0 0] := hall 11 8 rfl
  have ne2_8 : g2 ≠ g8 := Nat.ne_of_lt (Nat.lt_of_lt_of_le o2.lt ge8)
  have ne5_8 : g5 ≠ g8 := by intro e; exact hne 8 11 5 8 rfl rfl (by decide) rfl rfl (by rw [e5, e8, e])
  have ne6_8 : g6 ≠ g8 := by intro e; exact hne 9 11 6 8 rfl rfl (by decide) rfl rfl (by rw [e6, e8, e])
  have ne7_8 : g7 ≠ g8 := by intro e; exact hne 10 11 7 8 rfl rfl (by decide) rfl rfl (by rw [e7, e8, e])
  replace ge5 : w.heap.size ≤ g5 := Nat.le_trans bel.size ge5
  replace ge6 : w.heap.size ≤ g6 := Nat.le_trans bel.size ge6
  replace ge7 : w.heap.size ≤ g7 := Nat.le_trans bel.size ge7
  replace ge8 : w.heap.size ≤ g8 := Nat.le_trans bel.size ge8
  clear hall hne
  replace ia1 := ia1.below bb
  replace ib1 := ib1.below bb
  replace o2 := o2.below bb
  replace bel := below_to bel bb
  clear bb
  obtain ⟨b13, ad13, n13, c13, ae13, m13, d13, rfl, hn13, hd13⟩ := Rq.shape hh6
  have hf14 := Wc.abs hn13
  replace hF := hF.add e12
  clear e12
  obtain ⟨b15, ad15, n15, c15, ae15, m15, d15, rfl, hn15, hd15⟩ := Rq.shape hh8
  have hf16 := Wc.abs hn15
  replace hF := hF.add e14
  clear e14
  obtain ⟨b17, ad17, n17, c17, ae17, m17, d17, z17, D17, rfl, hn17, hd17, hD17, hq17, lz17, lD17⟩ := Rr.shape hh10
  have ha17 := hn17.abs
  replace hF := hF.add e16
  clear e16
  obtain ⟨b18, ad18, n18, c18, ae18, m18, d18, z18, D18, rfl, hn18, hd18, hD18, hq18, lz18, lD18⟩ := Rr.shape hh12
  have ha18 := hn18.abs
  replace hF := hF.add e18
  clear e18
  replace hF := hF.add e5
  clear e5
  replace hF := hF.add e6
  clear e6
  replace hF := hF.add e7
  clear e7
  replace hF := hF.add e8
  clear e8
  obtain ⟨w19, hr, tu, on⟩ := st_Rat (vs := [.bool b13, .slice ad13 n13 c13, .slice ae13 m13 d13]) o5 rfl rfl (ocB (ocS (ocS oc0))) (niB (niS (niS ni0))) (o := 0) rfl
  have kp := tu.keep o5
  refine E.st hF (r_store (hF.at 3 rfl) (hF.at 7 rfl) (hr _ rfl)) rfl rfl fun a hF => ?_
  clear hr
  replace hh12 := hh12.keep kp
  replace hn18 := hn18.keep kp
  replace ha18 := ha18.keep kp
  replace hd18 := hd18.keep kp
  replace hh10 := hh10.keep kp
  replace hn17 := hn17.keep kp
  replace ha17 := ha17.keep kp
  replace hd17 := hd17.keep kp
  replace hh8 := hh8.keep kp
  replace hn15 := hn15.keep kp
  replace hf16 := hf16.keep kp
  replace hd15 := hd15.keep kp
  replace ia1 := ia1.keep kp
  replace ib1 := ib1.keep kp
  replace hh6 := hh6.keep kp
  replace hn13 := hn13.keep kp
  replace hf14 := hf14.keep kp
  replace hd13 := hd13.keep kp
  replace o2 := tu.own o2 ne2_5
  replace o6 := tu.own o6 (Ne.symm ne5_6)
  replace o7 := tu.own o7 (Ne.symm ne5_7)
  replace o8 := tu.own o8 (Ne.symm ne5_8)
  replace bel := tu.below bel ge5
  clear tu kp
  replace o5 := on
  clear on
  obtain ⟨w20, hr, tu, on⟩ := st_Rat (vs := [.bool b15, .slice ad15 n15 c15, .slice ae15 m15 d15]) o6 rfl rfl (ocB (ocS (ocS oc0))) (niB (niS (niS ni0))) (o := 0) rfl
  have kp := tu.keep o6
  refine E.st hF (r_store (hF.at 2 rfl) (hF.at 6 rfl) (hr _ rfl)) rfl rfl fun a hF => ?_
  clear hr
  replace hh12 := hh12.keep kp
  replace hn18 := hn18.keep kp
  replace ha18 := ha18.keep kp
  replace hd18 := hd18.keep kp
  replace hh10 := hh10.keep kp
  replace hn17 := hn17.keep kp
  replace ha17 := ha17.keep kp
  replace hd17 := hd17.keep kp
  replace ia1 := ia1.keep kp
  replace ib1 := ib1.keep kp
  replace hf14 := hf14.keep kp
  replace hd13 := hd13.keep kp
  replace hh6 := hh6.keep kp
  replace hn13 := hn13.keep kp
  replace hh8 := hh8.keep kp
  replace hn15 := hn15.keep kp
  replace hf16 := hf16.keep kp
  replace hd15 := hd15.keep kp
  replace o2 := tu.own o2 ne2_6
  replace o5 := tu.own o5 ne5_6
  replace o7 := tu.own o7 (Ne.symm ne6_7)
  replace o8 := tu.own o8 (Ne.symm ne6_8)
  replace bel := tu.below bel ge6
  clear tu kp
  replace o6 := on
  clear on
  obtain ⟨w21, hr, tu, on⟩ := st_RRat (vs := [.bool b17, .slice ad17 n17 c17, .slice ae17 m17 d17]) o7 rfl rfl (ocB (ocS (ocS oc0))) (niB (niS (niS ni0))) (o := 0) rfl
  have kp := tu.keep o7
  refine E.st hF (r_store (hF.at 1 rfl) (hF.at 5 rfl) (hr _ rfl)) rfl rfl fun a hF => ?_
  clear hr
  replace hh12 := hh12.keep kp
  replace hn18 := hn18.keep kp
  replace ha18 := ha18.keep kp
  replace hd18 := hd18.keep kp
  replace ia1 := ia1.keep kp
  replace ib1 := ib1.keep kp
  replace hf14 := hf14.keep kp
  replace hd13 := hd13.keep kp
  replace hh6 := hh6.keep kp
  replace hn13 := hn13.keep kp
  replace hf16 := hf16.keep kp
  replace hd15 := hd15.keep kp
  replace hh8 := hh8.keep kp
  replace hn15 := hn15.keep kp
  replace hh10 := hh10.keep kp
  replace hn17 := hn17.keep kp
  replace ha17 := ha17.keep kp
  replace hd17 := hd17.keep kp
  replace o2 := tu.own o2 ne2_7
  replace o5 := tu.own o5 ne5_7
  replace o6 := tu.own o6 ne6_7
  replace o8 := tu.own o8 (Ne.symm ne7_8)
  replace bel := tu.below bel ge7
  clear tu kp
  replace o7 := on
  clear on
  obtain ⟨w22, hr, tu, on⟩ := st_RRat (vs := [.bool b18, .slice ad18 n18 c18, .slice ae18 m18 d18]) o8 rfl rfl (ocB (ocS (ocS oc0))) (niB (niS (niS ni0))) (o := 0) rfl
  have kp := tu.keep o8
  refine E.st hF (r_store (hF.at 0 rfl) (hF.at 4 rfl) (hr _ rfl)) rfl rfl fun a hF => ?_
  clear hr
  replace ia1 := ia1.keep kp
  replace ib1 := ib1.keep kp
  replace hf14 := hf14.keep kp
  replace hd13 := hd13.keep kp
  replace hh6 := hh6.keep kp
  replace hn13 := hn13.keep kp
  replace hf16 := hf16.keep kp
  replace hd15 := hd15.keep kp
  replace hh8 := hh8.keep kp
  replace hn15 := hn15.keep kp
  replace ha17 := ha17.keep kp
  replace hd17 := hd17.keep kp
  replace hh10 := hh10.keep kp
  replace hn17 := hn17.keep kp
  replace hh12 := hh12.keep kp
  replace hn18 := hn18.keep kp
  replace ha18 := ha18.keep kp
  replace hd18 := hd18.keep kp
  replace o2 := tu.own o2 ne2_8
  replace o5 := tu.own o5 ne5_8
  replace o6 := tu.own o6 ne6_8
  replace o7 := tu.own o7 ne7_8
  replace bel := tu.below bel ge8
  clear tu kp
  replace o8 := on
  clear on
  refine E.nil ?_
  refine wp_seq ?_
  refine wp_seq ?_
  refine E.drawn 38 mixed hF [19, 20, 21, 22, 23, 24, 25, 26, 27, 28, 29, 30, 31, 32, 33, 34, 35, 36, 37, 38, 39, 40, 41, 42, 43, 44, 45, 46, 47, 48, 49, 50, 51, 52, 53, 54, 55, 56] [(fun _ v => v = .agg #[.bool b13, .slice ad13 n13 c13, .slice ae13 m13 d13]), (fun _ v => v = .agg #[.bool b15, .slice ad15 n15 c15, .slice ae15 m15 d15]), (fun w v => Rq w v ((((rawZ nega1 xa1 5 : Int) : Rat) / ((rawZ negb1 xb1 5 : Int) : Rat)) + (((rawZ nega2 xa2 5 : Int) : Rat) / ((rawZ negb2 xb2 5 : Int) : Rat)))), (fun _ v => v = .agg #[.bool b17, .slice ad17 n17 c17, .slice ae17 m17 d17]), (fun _ v => v = .agg #[.bool b18, .slice ad18 n18 c18, .slice ae18 m18 d18]), (fun w v => Rr w v ((((rawZ nega1 xa1 5 : Int) : Rat) / ((rawZ negb1 xb1 5 : Int) : Rat)) + (((rawZ nega2 xa2 5 : Int) : Rat) / ((rawZ negb2 xb2 5 : Int) : Rat))) ((5 + 5 + 1))), (fun _ v => v = .int .i64 0), (fun _ v => v = .bool false), (fun _ v => v = .bool false), (fun _ v => v = .agg #[.bool b13, .slice ad13 n13 c13, .slice ae13 m13 d13]), (fun _ v => v = .agg #[.bool b15, .slice ad15 n15 c15, .slice ae15 m15 d15]), (fun w v => Rq w v ((((rawZ nega1 xa1 5 : Int) : Rat) / ((rawZ negb1 xb1 5 : Int) : Rat)) - (((rawZ nega2 xa2 5 : Int) : Rat) / ((rawZ negb2 xb2 5 : Int) : Rat)))), (fun _ v => v = .agg #[.bool b17, .slice ad17 n17 c17, .slice ae17 m17 d17]), (fun _ v => v = .agg #[.bool b18, .slice ad18 n18 c18, .slice ae18 m18 d18]), (fun w v => Rr w v ((((rawZ nega1 xa1 5 : Int) : Rat) / ((rawZ negb1 xb1 5 : Int) : Rat)) - (((rawZ nega2 xa2 5 : Int) : Rat) / ((rawZ negb2 xb2 5 : Int) : Rat))) ((5 + 5 + 1))), (fun _ v => v = .int .i64 0), (fun _ v => v = .bool false), (fun _ v => v = .bool false), (fun _ v => v = .bool false), (fun _ v => v = .agg #[.bool b13, .slice ad13 n13 c13, .slice ae13 m13 d13]), (fun _ v => v = .agg #[.bool b15, .slice ad15 n15 c15, .slice ae15 m15 d15]), (fun w v => Rq w v ((((rawZ nega1 xa1 5 : Int) : Rat) / ((rawZ negb1 xb1 5 : Int) : Rat)) * (((rawZ nega2 xa2 5 : Int) : Rat) / ((rawZ negb2 xb2 5 : Int) : Rat)))), (fun _ v => v = .agg #[.bool b17, .slice ad17 n17 c17, .slice ae17 m17 d17]), (fun _ v => v = .agg #[.bool b18, .slice ad18 n18 c18, .slice ae18 m18 d18]), (fun w v => Rr w v ((((rawZ nega1 xa1 5 : Int) : Rat) / ((rawZ negb1 xb1 5 : Int) : Rat)) * (((rawZ nega2 xa2 5 : Int) : Rat) / ((rawZ negb2 xb2 5 : Int) : Rat))) ((5 + 5))), (fun _ v => v = .int .i64 0), (fun _ v => v = .bool false), (fun _ v => v = .bool false), (fun _ v => v = .bool false), (fun _ v => v = .agg #[.bool b13, .slice ad13 n13 c13, .slice ae13 m13 d13]), (fun _ v => v = .agg #[.bool b15, .slice ad15 n15 c15, .slice ae15 m15 d15]), (fun w v => Rq w v ((((rawZ nega1 xa1 5 : Int) : Rat) / ((rawZ negb1 xb1 5 : Int) : Rat)) / (((rawZ nega2 xa2 5 : Int) : Rat) / ((rawZ negb2 xb2 5 : Int) : Rat)))), (fun _ v => v = .agg #[.bool b17, .slice ad17 n17 c17, .slice ae17 m17 d17]), (fun _ v => v = .agg #[.bool b18, .slice ad18 n18 c18, .slice ae18 m18 d18]), (fun w v => Rr w v ((((rawZ nega1 xa1 5 : Int) : Rat) / ((rawZ negb1 xb1 5 : Int) : Rat)) / (((rawZ nega2 xa2 5 : Int) : Rat) / ((rawZ negb2 xb2 5 : Int) : Rat))) ((5 + 5))), (fun _ v => v = .int .i64 0), (fun _ v => v = .bool false), (fun _ v => v = .bool false)] [] (by decide +kernel) (by decide +kernel) rfl rfl rfl ⟨(Mb.eq _), (Mb.eq _), (fun _ _ _ h hb => h.below hb), (Mb.eq _), (Mb.eq _), (fun _ _ _ h hb => h.below hb), (Mb.eq _), (Mb.eq _), (Mb.eq _), (Mb.eq _), (Mb.eq _), (fun _ _ _ h hb => h.below hb), (Mb.eq _), (Mb.eq _), (fun _ _ _ h hb => h.below hb), (Mb.eq _), (Mb.eq _), (Mb.eq _), (Mb.eq _), (Mb.eq _), (Mb.eq _), (fun _ _ _ h hb => h.below hb), (Mb.eq _), (Mb.eq _), (fun _ _ _ h hb => h.below hb), (Mb.eq _), (Mb.eq _), (Mb.eq _), (Mb.eq _), (Mb.eq _), (Mb.eq _), (fun _ _ _ h hb => h.below hb), (Mb.eq _), (Mb.eq _), (fun _ _ _ h hb => h.below hb), (Mb.eq _), (Mb.eq _), (Mb.eq _), trivial⟩ trivial ⟨?_, ?_, ?_, ?_, ?_, ?_, ?_, ?_, ?_, ?_, ?_, ?_, ?_, ?_, ?_, ?_, ?_, ?_, ?_, ?_, ?_, ?_, ?_, ?_, ?_, ?_, ?_, ?_, ?_, ?_, ?_, ?_, ?_, ?_, ?_, ?_, ?_, ?_, trivial⟩ ?_
  · intro a' w' hF' hb hd
    exact if_does (wanted_free rfl) (Does.vals (r_load (hF'.at 3 rfl) (ld_Rat (vs := [.bool b13, .slice ad13 n13 c13, .slice ae13 m13 d13]) (o5.below hb) rfl rfl)) ⟨rfl, Below.refl _ _, (fun h => absurd h (by decide))⟩)
  · intro a' w' hF' hb hd
    exact if_does (wanted_free rfl) (Does.vals (r_load (hF'.at 2 rfl) (ld_Rat (vs := [.bool b15, .slice ad15 n15 c15, .slice ae15 m15 d15]) (o6.below hb) rfl rfl)) ⟨rfl, Below.refl _ _, (fun h => absurd h (by decide))⟩)
  · intro a' w' hF' hb hd
    have e19 : a'.tmps.getD 19 undef = .agg #[.bool b13, .slice ad13 n13 c13, .slice ae13 m13 d13] := hd _ 19 (Array.mem_of_getElem? (i := 0) rfl) rfl rfl
    have e20 : a'.tmps.getD 20 undef = .agg #[.bool b15, .slice ad15 n15 c15, .slice ae15 m15 d15] := hd _ 20 (Array.mem_of_getElem? (i := 1) rfl) rfl rfl
    refine if_does (wanted_free rfl) (Does.calls (r_call Try.func60 en60.1 en60.2 (map2 e19 e20)) (rAdd_any _ _ (((rawZ nega1 xa1 5 : Int) : Rat) / ((rawZ negb1 xb1 5 : Int) : Rat)) (((rawZ nega2 xa2 5 : Int) : Rat) / ((rawZ negb2 xb2 5 : Int) : Rat)) 5 _ (hh6.below hb) (hh8.below hb) ((own5_lim nega1 negb1 oka1 okb1 5 (by decide)).up _ (by omega)) ((own5_lim nega2 negb2 oka2 okb2 5 (by decide)).up _ (by omega)) (by omega)) ?_)
    rintro e w'' ⟨v', rfl, h', bb⟩
    exact ⟨_, rfl, h', bb, (fun h => absurd h (by decide))⟩
  · intro a' w' hF' hb hd
    exact if_does (wanted_free rfl) (Does.vals (r_load (hF'.at 1 rfl) (ld_RRat (vs := [.bool b17, .slice ad17 n17 c17, .slice ae17 m17 d17]) (o7.below hb) rfl rfl)) ⟨rfl, Below.refl _ _, (fun h => absurd h (by decide))⟩)
  · intro a' w' hF' hb hd
    exact if_does (wanted_free rfl) (Does.vals (r_load (hF'.at 0 rfl) (ld_RRat (vs := [.bool b18, .slice ad18 n18 c18, .slice ae18 m18 d18]) (o8.below hb) rfl rfl)) ⟨rfl, Below.refl _ _, (fun h => absurd h (by decide))⟩)
  · intro a' w' hF' hb hd
    have e22 : a'.tmps.getD 22 undef = .agg #[.bool b17, .slice ad17 n17 c17, .slice ae17 m17 d17] := hd _ 22 (Array.mem_of_getElem? (i := 0) rfl) rfl rfl
    have e23 : a'.tmps.getD 23 undef = .agg #[.bool b18, .slice ad18 n18 c18, .slice ae18 m18 d18] := hd _ 23 (Array.mem_of_getElem? (i := 1) rfl) rfl rfl
    refine if_does (wanted_free rfl) (Does.calls (r_call Try.func61 en61.1 en61.2 (map2 e22 e23)) (dAdd_any _ _ (((rawZ nega1 xa1 5 : Int) : Rat) / ((rawZ negb1 xb1 5 : Int) : Rat)) (((rawZ nega2 xa2 5 : Int) : Rat) / ((rawZ negb2 xb2 5 : Int) : Rat)) 5 _ (hh10.below hb) (hh12.below hb) (by omega) (by omega)) ?_)
    rintro e w'' ⟨v', rfl, h', bb⟩
    exact ⟨_, rfl, h', bb, (fun h => absurd h (by decide))⟩
  · intro a' w' hF' hb hd
    obtain ⟨v21_0, e21, h21_1⟩ : ∃ v, a'.tmps.getD 21 undef = v ∧ Rq w' v ((((rawZ nega1 xa1 5 : Int) : Rat) / ((rawZ negb1 xb1 5 : Int) : Rat)) + (((rawZ nega2 xa2 5 : Int) : Rat) / ((rawZ negb2 xb2 5 : Int) : Rat))) := ⟨_, rfl, hd _ 21 (Array.mem_of_getElem? (i := 0) rfl) rfl rfl⟩
    obtain ⟨v24_0, e24, h24_1⟩ : ∃ v, a'.tmps.getD 24 undef = v ∧ Rr w' v ((((rawZ nega1 xa1 5 : Int) : Rat) / ((rawZ negb1 xb1 5 : Int) : Rat)) + (((rawZ nega2 xa2 5 : Int) : Rat) / ((rawZ negb2 xb2 5 : Int) : Rat))) ((5 + 5 + 1)) := ⟨_, rfl, hd _ 24 (Array.mem_of_getElem? (i := 1) rfl) rfl rfl⟩
    refine if_does (wanted_free rfl) (Does.calls (r_call Try.func51 en51.1 en51.2 (map2 e21 e24)) (Is5_any _ _ ((((rawZ nega1 xa1 5 : Int) : Rat) / ((rawZ negb1 xb1 5 : Int) : Rat)) + (((rawZ nega2 xa2 5 : Int) : Rat) / ((rawZ negb2 xb2 5 : Int) : Rat))) ((((rawZ nega1 xa1 5 : Int) : Rat) / ((rawZ negb1 xb1 5 : Int) : Rat)) + (((rawZ nega2 xa2 5 : Int) : Rat) / ((rawZ negb2 xb2 5 : Int) : Rat))) (5 + 5 + 1) (5 + 5 + 1) _ h21_1 h24_1 (rlim_add (own5_lim nega1 negb1 oka1 okb1 5 (by decide)) (own5_lim nega2 negb2 oka2 okb2 5 (by decide))) rfl (by omega) (by omega)) ?_)
    rintro e w'' ⟨rfl, bb⟩
    exact ⟨_, rfl, rfl, bb, (fun h => absurd h (by decide))⟩
  · intro a' w' hF' hb hd
    have e25 : a'.tmps.getD 25 undef = .int .i64 0 := hd _ 25 (Array.mem_of_getElem? (i := 0) rfl) rfl rfl
    exact if_does (wanted_free rfl) (Does.vals (r_bin e25 ev_c eg_scalar (bi_int (ic_neq (c := false) (by simp)) (by simp))) ⟨rfl, Below.refl _ _, (fun h => absurd h (by decide))⟩)
  · intro a' w' hF' hb hd
    have e26 : a'.tmps.getD 26 undef = .bool false := hd _ 26 (Array.mem_of_getElem? (i := 0) rfl) rfl rfl
    exact if_does (wanted_free rfl) (Does.vals (r_move e26) ⟨rfl, Below.refl _ _, (fun h => absurd h (by decide))⟩)
  · intro a' w' hF' hb hd
    have e27 : a'.tmps.getD 27 undef = .bool false := hd _ 27 (Array.mem_of_getElem? (i := 0) rfl) rfl rfl
    exact if_does (wanted_by rfl rfl e27 rfl) (Does.vals (r_load (hF'.at 3 rfl) (ld_Rat (vs := [.bool b13, .slice ad13 n13 c13, .slice ae13 m13 d13]) (o5.below hb) rfl rfl)) ⟨rfl, Below.refl _ _, (fun h => absurd h (by decide))⟩)
  · intro a' w' hF' hb hd
    have e27 : a'.tmps.getD 27 undef = .bool false := hd _ 27 (Array.mem_of_getElem? (i := 0) rfl) rfl rfl
    exact if_does (wanted_by rfl rfl e27 rfl) (Does.vals (r_load (hF'.at 2 rfl) (ld_Rat (vs := [.bool b15, .slice ad15 n15 c15, .slice ae15 m15 d15]) (o6.below hb) rfl rfl)) ⟨rfl, Below.refl _ _, (fun h => absurd h (by decide))⟩)
  · intro a' w' hF' hb hd
    have e27 : a'.tmps.getD 27 undef = .bool false := hd _ 27 (Array.mem_of_getElem? (i := 2) rfl) rfl rfl
    have e28 : a'.tmps.getD 28 undef = .agg #[.bool b13, .slice ad13 n13 c13, .slice ae13 m13 d13] := hd _ 28 (Array.mem_of_getElem? (i := 0) rfl) rfl rfl
    have e29 : a'.tmps.getD 29 undef = .agg #[.bool b15, .slice ad15 n15 c15, .slice ae15 m15 d15] := hd _ 29 (Array.mem_of_getElem? (i := 1) rfl) rfl rfl
    refine if_does (wanted_by rfl rfl e27 rfl) (Does.calls (r_call Try.func62 en62.1 en62.2 (map2 e28 e29)) (rSub_any _ _ (((rawZ nega1 xa1 5 : Int) : Rat) / ((rawZ negb1 xb1 5 : Int) : Rat)) (((rawZ nega2 xa2 5 : Int) : Rat) / ((rawZ negb2 xb2 5 : Int) : Rat)) 5 _ (hh6.below hb) (hh8.below hb) ((own5_lim nega1 negb1 oka1 okb1 5 (by decide)).up _ (by omega)) ((own5_lim nega2 negb2 oka2 okb2 5 (by decide)).up _ (by omega)) (by omega)) ?_)
    rintro e w'' ⟨v', rfl, h', bb⟩
    exact ⟨_, rfl, h', bb, (fun h => absurd h (by decide))⟩
  · intro a' w' hF' hb hd
    have e27 : a'.tmps.getD 27 undef = .bool false := hd _ 27 (Array.mem_of_getElem? (i := 0) rfl) rfl rfl
    exact if_does (wanted_by rfl rfl e27 rfl) (Does.vals (r_load (hF'.at 1 rfl) (ld_RRat (vs := [.bool b17, .slice ad17 n17 c17, .slice ae17 m17 d17]) (o7.below hb) rfl rfl)) ⟨rfl, Below.refl _ _, (fun h => absurd h (by decide))⟩)
  · intro a' w' hF' hb hd
    have e27 : a'.tmps.getD 27 undef = .bool false := hd _ 27 (Array.mem_of_getElem? (i := 0) rfl) rfl rfl
    exact if_does (wanted_by rfl rfl e27 rfl) (Does.vals (r_load (hF'.at 0 rfl) (ld_RRat (vs := [.bool b18, .slice ad18 n18 c18, .slice ae18 m18 d18]) (o8.below hb) rfl rfl)) ⟨rfl, Below.refl _ _, (fun h => absurd h (by decide))⟩)
  · intro a' w' hF' hb hd
    have e27 : a'.tmps.getD 27 undef = .bool false := hd _ 27 (Array.mem_of_getElem? (i := 3) rfl) rfl rfl
    have e31 : a'.tmps.getD 31 undef = .agg #[.bool b17, .slice ad17 n17 c17, .slice ae17 m17 d17] := hd _ 31 (Array.mem_of_getElem? (i := 0) rfl) rfl rfl
    have e32 : a'.tmps.getD 32 undef = .agg #[.bool b18, .slice ad18 n18 c18, .slice ae18 m18 d18] := hd _ 32 (Array.mem_of_getElem? (i := 1) rfl) rfl rfl
    refine if_does (wanted_by rfl rfl e27 rfl) (Does.calls (r_call Try.func63 en63.1 en63.2 (map2 e31 e32)) (dSub_any _ _ (((rawZ nega1 xa1 5 : Int) : Rat) / ((rawZ negb1 xb1 5 : Int) : Rat)) (((rawZ nega2 xa2 5 : Int) : Rat) / ((rawZ negb2 xb2 5 : Int) : Rat)) 5 _ (hh10.below hb) (hh12.below hb) (by omega) (by omega)) ?_)
    rintro e w'' ⟨v', rfl, h', bb⟩
    exact ⟨_, rfl, h', bb, (fun h => absurd h (by decide))⟩
  · intro a' w' hF' hb hd
    have e27 : a'.tmps.getD 27 undef = .bool false := hd _ 27 (Array.mem_of_getElem? (i := 3) rfl) rfl rfl
    obtain ⟨v30_0, e30, h30_1⟩ : ∃ v, a'.tmps.getD 30 undef = v ∧ Rq w' v ((((rawZ nega1 xa1 5 : Int) : Rat) / ((rawZ negb1 xb1 5 : Int) : Rat)) - (((rawZ nega2 xa2 5 : Int) : Rat) / ((rawZ negb2 xb2 5 : Int) : Rat))) := ⟨_, rfl, hd _ 30 (Array.mem_of_getElem? (i := 0) rfl) rfl rfl⟩
    obtain ⟨v33_0, e33, h33_1⟩ : ∃ v, a'.tmps.getD 33 undef = v ∧ Rr w' v ((((rawZ nega1 xa1 5 : Int) : Rat) / ((rawZ negb1 xb1 5 : Int) : Rat)) - (((rawZ nega2 xa2 5 : Int) : Rat) / ((rawZ negb2 xb2 5 : Int) : Rat))) ((5 + 5 + 1)) := ⟨_, rfl, hd _ 33 (Array.mem_of_getElem? (i := 1) rfl) rfl rfl⟩
    refine if_does (wanted_by rfl rfl e27 rfl) (Does.calls (r_call Try.func51 en51.1 en51.2 (map2 e30 e33)) (Is5_any _ _ ((((rawZ nega1 xa1 5 : Int) : Rat) / ((rawZ negb1 xb1 5 : Int) : Rat)) - (((rawZ nega2 xa2 5 : Int) : Rat) / ((rawZ negb2 xb2 5 : Int) : Rat))) ((((rawZ nega1 xa1 5 : Int) : Rat) / ((rawZ negb1 xb1 5 : Int) : Rat)) - (((rawZ nega2 xa2 5 : Int) : Rat) / ((rawZ negb2 xb2 5 : Int) : Rat))) (5 + 5 + 1) (5 + 5 + 1) _ h30_1 h33_1 (rlim_sub (own5_lim nega1 negb1 oka1 okb1 5 (by decide)) (own5_lim nega2 negb2 oka2 okb2 5 (by decide))) rfl (by omega) (by omega)) ?_)
    rintro e w'' ⟨rfl, bb⟩
    exact ⟨_, rfl, rfl, bb, (fun h => absurd h (by decide))⟩
  · intro a' w' hF' hb hd
    have e27 : a'.tmps.getD 27 undef = .bool false := hd _ 27 (Array.mem_of_getElem? (i := 1) rfl) rfl rfl
    have e34 : a'.tmps.getD 34 undef = .int .i64 0 := hd _ 34 (Array.mem_of_getElem? (i := 0) rfl) rfl rfl
    exact if_does (wanted_by rfl rfl e27 rfl) (Does.vals (r_bin e34 ev_c eg_scalar (bi_int (ic_neq (c := false) (by simp)) (by simp))) ⟨rfl, Below.refl _ _, (fun h => absurd h (by decide))⟩)
  · intro a' w' hF' hb hd
    have e27 : a'.tmps.getD 27 undef = .bool false := hd _ 27 (Array.mem_of_getElem? (i := 0) rfl) rfl rfl
    have e35 : a'.tmps.getD 35 undef = .bool false := hd _ 35 (Array.mem_of_getElem? (i := 1) rfl) rfl rfl
    exact if_does (wanted_free rfl) (Does.vals (r_pick_f e27 e35) ⟨rfl, Below.refl _ _, (fun h => absurd h (by decide))⟩)
  · intro a' w' hF' hb hd
    have e36 : a'.tmps.getD 36 undef = .bool false := hd _ 36 (Array.mem_of_getElem? (i := 0) rfl) rfl rfl
    exact if_does (wanted_free rfl) (Does.vals (r_move e36) ⟨rfl, Below.refl _ _, (fun h => absurd h (by decide))⟩)
  · intro a' w' hF' hb hd
    have e37 : a'.tmps.getD 37 undef = .bool false := hd _ 37 (Array.mem_of_getElem? (i := 0) rfl) rfl rfl
    exact if_does (wanted_by rfl rfl e37 rfl) (Does.vals (r_load (hF'.at 3 rfl) (ld_Rat (vs := [.bool b13, .slice ad13 n13 c13, .slice ae13 m13 d13]) (o5.below hb) rfl rfl)) ⟨rfl, Below.refl _ _, (fun h => absurd h (by decide))⟩)
  · intro a' w' hF' hb hd
    have e37 : a'.tmps.getD 37 undef = .bool false := hd _ 37 (Array.mem_of_getElem? (i := 0) rfl) rfl rfl
    exact if_does (wanted_by rfl rfl e37 rfl) (Does.vals (r_load (hF'.at 2 rfl) (ld_Rat (vs := [.bool b15, .slice ad15 n15 c15, .slice ae15 m15 d15]) (o6.below hb) rfl rfl)) ⟨rfl, Below.refl _ _, (fun h => absurd h (by decide))⟩)
  · intro a' w' hF' hb hd
    have e37 : a'.tmps.getD 37 undef = .bool false := hd _ 37 (Array.mem_of_getElem? (i := 2) rfl) rfl rfl
    have e38 : a'.tmps.getD 38 undef = .agg #[.bool b13, .slice ad13 n13 c13, .slice ae13 m13 d13] := hd _ 38 (Array.mem_of_getElem? (i := 0) rfl) rfl rfl
    have e39 : a'.tmps.getD 39 undef = .agg #[.bool b15, .slice ad15 n15 c15, .slice ae15 m15 d15] := hd _ 39 (Array.mem_of_getElem? (i := 1) rfl) rfl rfl
    refine if_does (wanted_by rfl rfl e37 rfl) (Does.calls (r_call Try.func64 en64.1 en64.2 (map2 e38 e39)) (rMul_any _ _ (((rawZ nega1 xa1 5 : Int) : Rat) / ((rawZ negb1 xb1 5 : Int) : Rat)) (((rawZ nega2 xa2 5 : Int) : Rat) / ((rawZ negb2 xb2 5 : Int) : Rat)) 5 _ (hh6.below hb) (hh8.below hb) ((own5_lim nega1 negb1 oka1 okb1 5 (by decide)).up _ (by omega)) ((own5_lim nega2 negb2 oka2 okb2 5 (by decide)).up _ (by omega)) (by omega)) ?_)
    rintro e w'' ⟨v', rfl, h', bb⟩
    exact ⟨_, rfl, h', bb, (fun h => absurd h (by decide))⟩
  · intro a' w' hF' hb hd
    have e37 : a'.tmps.getD 37 undef = .bool false := hd _ 37 (Array.mem_of_getElem? (i := 0) rfl) rfl rfl
    exact if_does (wanted_by rfl rfl e37 rfl) (Does.vals (r_load (hF'.at 1 rfl) (ld_RRat (vs := [.bool b17, .slice ad17 n17 c17, .slice ae17 m17 d17]) (o7.below hb) rfl rfl)) ⟨rfl, Below.refl _ _, (fun h => absurd h (by decide))⟩)
  · intro a' w' hF' hb hd
    have e37 : a'.tmps.getD 37 undef = .bool false := hd _ 37 (Array.mem_of_getElem? (i := 0) rfl) rfl rfl
    exact if_does (wanted_by rfl rfl e37 rfl) (Does.vals (r_load (hF'.at 0 rfl) (ld_RRat (vs := [.bool b18, .slice ad18 n18 c18, .slice ae18 m18 d18]) (o8.below hb) rfl rfl)) ⟨rfl, Below.refl _ _, (fun h => absurd h (by decide))⟩)
  · intro a' w' hF' hb hd
    have e37 : a'.tmps.getD 37 undef = .bool false := hd _ 37 (Array.mem_of_getElem? (i := 3) rfl) rfl rfl
    have e41 : a'.tmps.getD 41 undef = .agg #[.bool b17, .slice ad17 n17 c17, .slice ae17 m17 d17] := hd _ 41 (Array.mem_of_getElem? (i := 0) rfl) rfl rfl
    have e42 : a'.tmps.getD 42 undef = .agg #[.bool b18, .slice ad18 n18 c18, .slice ae18 m18 d18] := hd _ 42 (Array.mem_of_getElem? (i := 1) rfl) rfl rfl
    refine if_does (wanted_by rfl rfl e37 rfl) (Does.calls (r_call Try.func65 en65.1 en65.2 (map2 e41 e42)) (dMul_any _ _ (((rawZ nega1 xa1 5 : Int) : Rat) / ((rawZ negb1 xb1 5 : Int) : Rat)) (((rawZ nega2 xa2 5 : Int) : Rat) / ((rawZ negb2 xb2 5 : Int) : Rat)) 5 _ (hh10.below hb) (hh12.below hb) (by omega) (by omega)) ?_)
    rintro e w'' ⟨v', rfl, h', bb⟩
    exact ⟨_, rfl, h', bb, (fun h => absurd h (by decide))⟩
  · intro a' w' hF' hb hd
    have e37 : a'.tmps.getD 37 undef = .bool false := hd _ 37 (Array.mem_of_getElem? (i := 3) rfl) rfl rfl
    obtain ⟨v40_0, e40, h40_1⟩ : ∃ v, a'.tmps.getD 40 undef = v ∧ Rq w' v ((((rawZ nega1 xa1 5 : Int) : Rat) / ((rawZ negb1 xb1 5 : Int) : Rat)) * (((rawZ nega2 xa2 5 : Int) : Rat) / ((rawZ negb2 xb2 5 : Int) : Rat))) := ⟨_, rfl, hd _ 40 (Array.mem_of_getElem? (i := 0) rfl) rfl rfl⟩
    obtain ⟨v43_0, e43, h43_1⟩ : ∃ v, a'.tmps.getD 43 undef = v ∧ Rr w' v ((((rawZ nega1 xa1 5 : Int) : Rat) / ((rawZ negb1 xb1 5 : Int) : Rat)) * (((rawZ nega2 xa2 5 : Int) : Rat) / ((rawZ negb2 xb2 5 : Int) : Rat))) ((5 + 5)) := ⟨_, rfl, hd _ 43 (Array.mem_of_getElem? (i := 1) rfl) rfl rfl⟩
    refine if_does (wanted_by rfl rfl e37 rfl) (Does.calls (r_call Try.func51 en51.1 en51.2 (map2 e40 e43)) (Is5_any _ _ ((((rawZ nega1 xa1 5 : Int) : Rat) / ((rawZ negb1 xb1 5 : Int) : Rat)) * (((rawZ nega2 xa2 5 : Int) : Rat) / ((rawZ negb2 xb2 5 : Int) : Rat))) ((((rawZ nega1 xa1 5 : Int) : Rat) / ((rawZ negb1 xb1 5 : Int) : Rat)) * (((rawZ nega2 xa2 5 : Int) : Rat) / ((rawZ negb2 xb2 5 : Int) : Rat))) (5 + 5) (5 + 5) _ h40_1 h43_1 (rlim_mul (own5_lim nega1 negb1 oka1 okb1 5 (by decide)) (own5_lim nega2 negb2 oka2 okb2 5 (by decide))) rfl (by omega) (by omega)) ?_)
    rintro e w'' ⟨rfl, bb⟩
    exact ⟨_, rfl, rfl, bb, (fun h => absurd h (by decide))⟩
  · intro a' w' hF' hb hd
    have e37 : a'.tmps.getD 37 undef = .bool false := hd _ 37 (Array.mem_of_getElem? (i := 1) rfl) rfl rfl
    have e44 : a'.tmps.getD 44 undef = .int .i64 0 := hd _ 44 (Array.mem_of_getElem? (i := 0) rfl) rfl rfl
    exact if_does (wanted_by rfl rfl e37 rfl) (Does.vals (r_bin e44 ev_c eg_scalar (bi_int (ic_neq (c := false) (by simp)) (by simp))) ⟨rfl, Below.refl _ _, (fun h => absurd h (by decide))⟩)
  · intro a' w' hF' hb hd
    have e37 : a'.tmps.getD 37 undef = .bool false := hd _ 37 (Array.mem_of_getElem? (i := 0) rfl) rfl rfl
    have e45 : a'.tmps.getD 45 undef = .bool false := hd _ 45 (Array.mem_of_getElem? (i := 1) rfl) rfl rfl
    exact if_does (wanted_free rfl) (Does.vals (r_pick_f e37 e45) ⟨rfl, Below.refl _ _, (fun h => absurd h (by decide))⟩)
  · intro a' w' hF' hb hd
    have e46 : a'.tmps.getD 46 undef = .bool false := hd _ 46 (Array.mem_of_getElem? (i := 0) rfl) rfl rfl
    exact if_does (wanted_free rfl) (Does.vals (r_move e46) ⟨rfl, Below.refl _ _, (fun h => absurd h (by decide))⟩)
  · intro a' w' hF' hb hd
    have e47 : a'.tmps.getD 47 undef = .bool false := hd _ 47 (Array.mem_of_getElem? (i := 0) rfl) rfl rfl
    exact if_does (wanted_by rfl rfl e47 rfl) (Does.vals (r_load (hF'.at 3 rfl) (ld_Rat (vs := [.bool b13, .slice ad13 n13 c13, .slice ae13 m13 d13]) (o5.below hb) rfl rfl)) ⟨rfl, Below.refl _ _, (fun h => absurd h (by decide))⟩)
  · intro a' w' hF' hb hd
    have e47 : a'.tmps.getD 47 undef = .bool false := hd _ 47 (Array.mem_of_getElem? (i := 0) rfl) rfl rfl
    exact if_does (wanted_by rfl rfl e47 rfl) (Does.vals (r_load (hF'.at 2 rfl) (ld_Rat (vs := [.bool b15, .slice ad15 n15 c15, .slice ae15 m15 d15]) (o6.below hb) rfl rfl)) ⟨rfl, Below.refl _ _, (fun h => absurd h (by decide))⟩)
  · intro a' w' hF' hb hd
    have e47 : a'.tmps.getD 47 undef = .bool false := hd _ 47 (Array.mem_of_getElem? (i := 2) rfl) rfl rfl
    have e48 : a'.tmps.getD 48 undef = .agg #[.bool b13, .slice ad13 n13 c13, .slice ae13 m13 d13] := hd _ 48 (Array.mem_of_getElem? (i := 0) rfl) rfl rfl
    have e49 : a'.tmps.getD 49 undef = .agg #[.bool b15, .slice ad15 n15 c15, .slice ae15 m15 d15] := hd _ 49 (Array.mem_of_getElem? (i := 1) rfl) rfl rfl
    refine if_does (wanted_by rfl rfl e47 rfl) (Does.calls (r_call Try.func66 en66.1 en66.2 (map2 e48 e49)) (rDiv_any _ _ (((rawZ nega1 xa1 5 : Int) : Rat) / ((rawZ negb1 xb1 5 : Int) : Rat)) (((rawZ nega2 xa2 5 : Int) : Rat) / ((rawZ negb2 xb2 5 : Int) : Rat)) 5 _ (hh6.below hb) (hh8.below hb) ((own5_lim nega1 negb1 oka1 okb1 5 (by decide)).up _ (by omega)) ((own5_lim nega2 negb2 oka2 okb2 5 (by decide)).up _ (by omega)) (by omega)) ?_)
    rintro e w'' ⟨v', rfl, h', bb⟩
    exact ⟨_, rfl, h', bb, (fun h => absurd h (by decide))⟩
  · intro a' w' hF' hb hd
    have e47 : a'.tmps.getD 47 undef = .bool false := hd _ 47 (Array.mem_of_getElem? (i := 0) rfl) rfl rfl
    exact if_does (wanted_by rfl rfl e47 rfl) (Does.vals (r_load (hF'.at 1 rfl) (ld_RRat (vs := [.bool b17, .slice ad17 n17 c17, .slice ae17 m17 d17]) (o7.below hb) rfl rfl)) ⟨rfl, Below.refl _ _, (fun h => absurd h (by decide))⟩)
  · intro a' w' hF' hb hd
    have e47 : a'.tmps.getD 47 undef = .bool false := hd _ 47 (Array.mem_of_getElem? (i := 0) rfl) rfl rfl
    exact if_does (wanted_by rfl rfl e47 rfl) (Does.vals (r_load (hF'.at 0 rfl) (ld_RRat (vs := [.bool b18, .slice ad18 n18 c18, .slice ae18 m18 d18]) (o8.below hb) rfl rfl)) ⟨rfl, Below.refl _ _, (fun h => absurd h (by decide))⟩)
  · intro a' w' hF' hb hd
    have e47 : a'.tmps.getD 47 undef = .bool false := hd _ 47 (Array.mem_of_getElem? (i := 3) rfl) rfl rfl
    have e51 : a'.tmps.getD 51 undef = .agg #[.bool b17, .slice ad17 n17 c17, .slice ae17 m17 d17] := hd _ 51 (Array.mem_of_getElem? (i := 0) rfl) rfl rfl
    have e52 : a'.tmps.getD 52 undef = .agg #[.bool b18, .slice ad18 n18 c18, .slice ae18 m18 d18] := hd _ 52 (Array.mem_of_getElem? (i := 1) rfl) rfl rfl
    refine if_does (wanted_by rfl rfl e47 rfl) (Does.calls (r_call Try.func67 en67.1 en67.2 (map2 e51 e52)) (dDiv_any _ _ (((rawZ nega1 xa1 5 : Int) : Rat) / ((rawZ negb1 xb1 5 : Int) : Rat)) (((rawZ nega2 xa2 5 : Int) : Rat) / ((rawZ negb2 xb2 5 : Int) : Rat)) 5 _ (hh10.below hb) (hh12.below hb) (by omega) (by omega)) ?_)
    rintro e w'' ⟨v', rfl, h', bb⟩
    exact ⟨_, rfl, h', bb, (fun h => absurd h (by decide))⟩
  · intro a' w' hF' hb hd
    have e47 : a'.tmps.getD 47 undef = .bool false := hd _ 47 (Array.mem_of_getElem? (i := 3) rfl) rfl rfl
    obtain ⟨v50_0, e50, h50_1⟩ : ∃ v, a'.tmps.getD 50 undef = v ∧ Rq w' v ((((rawZ nega1 xa1 5 : Int) : Rat) / ((rawZ negb1 xb1 5 : Int) : Rat)) / (((rawZ nega2 xa2 5 : Int) : Rat) / ((rawZ negb2 xb2 5 : Int) : Rat))) := ⟨_, rfl, hd _ 50 (Array.mem_of_getElem? (i := 0) rfl) rfl rfl⟩
    obtain ⟨v53_0, e53, h53_1⟩ : ∃ v, a'.tmps.getD 53 undef = v ∧ Rr w' v ((((rawZ nega1 xa1 5 : Int) : Rat) / ((rawZ negb1 xb1 5 : Int) : Rat)) / (((rawZ nega2 xa2 5 : Int) : Rat) / ((rawZ negb2 xb2 5 : Int) : Rat))) ((5 + 5)) := ⟨_, rfl, hd _ 53 (Array.mem_of_getElem? (i := 1) rfl) rfl rfl⟩
    refine if_does (wanted_by rfl rfl e47 rfl) (Does.calls (r_call Try.func51 en51.1 en51.2 (map2 e50 e53)) (Is5_any _ _ ((((rawZ nega1 xa1 5 : Int) : Rat) / ((rawZ negb1 xb1 5 : Int) : Rat)) / (((rawZ nega2 xa2 5 : Int) : Rat) / ((rawZ negb2 xb2 5 : Int) : Rat))) ((((rawZ nega1 xa1 5 : Int) : Rat) / ((rawZ negb1 xb1 5 : Int) : Rat)) / (((rawZ nega2 xa2 5 : Int) : Rat) / ((rawZ negb2 xb2 5 : Int) : Rat))) (5 + 5) (5 + 5) _ h50_1 h53_1 (rlim_div (own5_lim nega1 negb1 oka1 okb1 5 (by decide)) (own5_lim nega2 negb2 oka2 okb2 5 (by decide))) rfl (by omega) (by omega)) ?_)
    rintro e w'' ⟨rfl, bb⟩
    exact ⟨_, rfl, rfl, bb, (fun h => absurd h (by decide))⟩
  · intro a' w' hF' hb hd
    have e47 : a'.tmps.getD 47 undef = .bool false := hd _ 47 (Array.mem_of_getElem? (i := 1) rfl) rfl rfl
    have e54 : a'.tmps.getD 54 undef = .int .i64 0 := hd _ 54 (Array.mem_of_getElem? (i := 0) rfl) rfl rfl
    exact if_does (wanted_by rfl rfl e47 rfl) (Does.vals (r_bin e54 ev_c eg_scalar (bi_int (ic_neq (c := false) (by simp)) (by simp))) ⟨rfl, Below.refl _ _, (fun h => absurd h (by decide))⟩)
  · intro a' w' hF' hb hd
    have e47 : a'.tmps.getD 47 undef = .bool false := hd _ 47 (Array.mem_of_getElem? (i := 0) rfl) rfl rfl
    have e55 : a'.tmps.getD 55 undef = .bool false := hd _ 55 (Array.mem_of_getElem? (i := 1) rfl) rfl rfl
    exact if_does (wanted_free rfl) (Does.vals (r_pick_f e47 e55) ⟨rfl, Below.refl _ _, (fun h => absurd h (by decide))⟩)
  intro a w23 hF bb hall hne
  have e56 : a.tmps.getD 56 undef = .bool false := hall 37 56 rfl
  clear hall hne
  replace ia1 := ia1.below bb
  replace ib1 := ib1.below bb
  replace hf14 := hf14.below bb
  replace hd13 := hd13.below bb
  replace hh6 := hh6.below bb
  replace hn13 := hn13.below bb
  replace hf16 := hf16.below bb
  replace hd15 := hd15.below bb
  replace hh8 := hh8.below bb
  replace hn15 := hn15.below bb
  replace ha17 := ha17.below bb
  replace hd17 := hd17.below bb
  replace hh10 := hh10.below bb
  replace hn17 := hn17.below bb
  replace ha18 := ha18.below bb
  replace hd18 := hd18.below bb
  replace hh12 := hh12.below bb
  replace hn18 := hn18.below bb
  replace o2 := o2.below bb
  replace o5 := o5.below bb
  replace o6 := o6.below bb
  replace o7 := o7.below bb
  replace o8 := o8.below bb
  replace bel := below_to bel bb
  clear bb
  replace hF := hF.add e56
  clear e56
  refine E.nil ?_
  refine wp_cond_false (hF.at 0 rfl) ?_
  refine wp_skip ?_
  refine E.norm ?_
  refine wp_seq ?_
  refine E.drawn 35 mixed hF [57, 58, 59, 60, 61, 62, 63, 64, 65, 66, 67, 68, 69, 70, 71, 72, 73, 74, 75, 76, 77, 78, 79, 80, 81, 82, 83, 84, 85, 86, 87, 88, 89, 90, 91] [(fun _ v => v = .agg #[.bool b13, .slice ad13 n13 c13, .slice ae13 m13 d13]), (fun _ v => v = .agg #[.bool b15, .slice ad15 n15 c15, .slice ae15 m15 d15]), (fun _ v => v = .int .i64 (qc (((rawZ nega1 xa1 5 : Int) : Rat) / ((rawZ negb1 xb1 5 : Int) : Rat)) (((rawZ nega2 xa2 5 : Int) : Rat) / ((rawZ negb2 xb2 5 : Int) : Rat)))), (fun _ v => v = .agg #[.bool b17, .slice ad17 n17 c17, .slice ae17 m17 d17]), (fun _ v => v = .agg #[.bool b18, .slice ad18 n18 c18, .slice ae18 m18 d18]), (fun _ v => v = .int .i64 (qc (((rawZ nega1 xa1 5 : Int) : Rat) / ((rawZ negb1 xb1 5 : Int) : Rat)) (((rawZ nega2 xa2 5 : Int) : Rat) / ((rawZ negb2 xb2 5 : Int) : Rat)))), (fun _ v => v = .bool true), (fun _ v => v = .bool true), (fun _ v => v = .agg #[.bool b13, .slice ad13 n13 c13, .slice ae13 m13 d13]), (fun _ v => v = .agg #[.bool b15, .slice ad15 n15 c15, .slice ae15 m15 d15]), (fun _ v => v = .bool (decide ((((rawZ nega1 xa1 5 : Int) : Rat) / ((rawZ negb1 xb1 5 : Int) : Rat)) = (((rawZ nega2 xa2 5 : Int) : Rat) / ((rawZ negb2 xb2 5 : Int) : Rat))))), (fun _ v => v = .agg #[.bool b17, .slice ad17 n17 c17, .slice ae17 m17 d17]), (fun _ v => v = .agg #[.bool b18, .slice ad18 n18 c18, .slice ae18 m18 d18]), (fun _ v => v = .int .i64 (qc (((rawZ nega1 xa1 5 : Int) : Rat) / ((rawZ negb1 xb1 5 : Int) : Rat)) (((rawZ nega2 xa2 5 : Int) : Rat) / ((rawZ negb2 xb2 5 : Int) : Rat)))), (fun _ v => v = .bool (decide (qc (((rawZ nega1 xa1 5 : Int) : Rat) / ((rawZ negb1 xb1 5 : Int) : Rat)) (((rawZ nega2 xa2 5 : Int) : Rat) / ((rawZ negb2 xb2 5 : Int) : Rat)) = 0))), (fun _ v => v = .bool true), (fun _ v => v = .bool true), (fun _ v => v = .bool true), (fun _ v => v = .agg #[.bool b13, .slice ad13 n13 c13, .slice ae13 m13 d13]), (fun _ v => v = .agg #[.bool nega1, .slice aa1 na1 ca1, .bool negb1, .slice ab1 nb1 cb1]), (fun w v => Rq w v (((rawZ nega1 xa1 5 : Int) : Rat) / ((rawZ negb1 xb1 5 : Int) : Rat))), (fun _ v => v = .bool true), (fun _ v => v = .bool true), (fun _ v => v = .bool true), (fun _ v => v = .agg #[.bool b13, .slice ad13 n13 c13, .slice ae13 m13 d13]), (fun _ v => v = .agg #[.bool b17, .slice ad17 n17 c17, .slice ae17 m17 d17]), (fun _ v => v = .int .i64 0), (fun _ v => v = .bool true), (fun _ v => v = .bool true), (fun _ v => v = .bool true), (fun _ v => v = .agg #[.bool b15, .slice ad15 n15 c15, .slice ae15 m15 d15]), (fun _ v => v = .agg #[.bool b18, .slice ad18 n18 c18, .slice ae18 m18 d18]), (fun _ v => v = .int .i64 0), (fun _ v => v = .bool true), (fun _ v => v = .bool true)] [] (by decide +kernel) (by decide +kernel) rfl rfl rfl ⟨(Mb.eq _), (Mb.eq _), (Mb.eq _), (Mb.eq _), (Mb.eq _), (Mb.eq _), (Mb.eq _), (Mb.eq _), (Mb.eq _), (Mb.eq _), (Mb.eq _), (Mb.eq _), (Mb.eq _), (Mb.eq _), (Mb.eq _), (Mb.eq _), (Mb.eq _), (Mb.eq _), (Mb.eq _), (Mb.eq _), (fun _ _ _ h hb => h.below hb), (Mb.eq _), (Mb.eq _), (Mb.eq _), (Mb.eq _), (Mb.eq _), (Mb.eq _), (Mb.eq _), (Mb.eq _), (Mb.eq _), (Mb.eq _), (Mb.eq _), (Mb.eq _), (Mb.eq _), (Mb.eq _), trivial⟩ trivial ⟨?_, ?_, ?_, ?_, ?_, ?_, ?_, ?_, ?_, ?_, ?_, ?_, ?_, ?_, ?_, ?_, ?_, ?_, ?_, ?_, ?_, ?_, ?_, ?_, ?_, ?_, ?_, ?_, ?_, ?_, ?_, ?_, ?_, ?_, ?_, trivial⟩ ?_
  · intro a' w' hF' hb hd
    exact if_does (wanted_free rfl) (Does.vals (r_load (hF'.at 4 rfl) (ld_Rat (vs := [.bool b13, .slice ad13 n13 c13, .slice ae13 m13 d13]) (o5.below hb) rfl rfl)) ⟨rfl, Below.refl _ _, (fun h => absurd h (by decide))⟩)
  · intro a' w' hF' hb hd
    exact if_does (wanted_free rfl) (Does.vals (r_load (hF'.at 3 rfl) (ld_Rat (vs := [.bool b15, .slice ad15 n15 c15, .slice ae15 m15 d15]) (o6.below hb) rfl rfl)) ⟨rfl, Below.refl _ _, (fun h => absurd h (by decide))⟩)
  · intro a' w' hF' hb hd
    have e57 : a'.tmps.getD 57 undef = .agg #[.bool b13, .slice ad13 n13 c13, .slice ae13 m13 d13] := hd _ 57 (Array.mem_of_getElem? (i := 0) rfl) rfl rfl
    have e58 : a'.tmps.getD 58 undef = .agg #[.bool b15, .slice ad15 n15 c15, .slice ae15 m15 d15] := hd _ 58 (Array.mem_of_getElem? (i := 1) rfl) rfl rfl
    refine if_does (wanted_free rfl) (Does.calls (r_call Try.func68 en68.1 en68.2 (map2 e57 e58)) (rCmp_any _ _ (((rawZ nega1 xa1 5 : Int) : Rat) / ((rawZ negb1 xb1 5 : Int) : Rat)) (((rawZ nega2 xa2 5 : Int) : Rat) / ((rawZ negb2 xb2 5 : Int) : Rat)) 5 _ (hh6.below hb) (hh8.below hb) ((own5_lim nega1 negb1 oka1 okb1 5 (by decide)).up _ (by omega)) ((own5_lim nega2 negb2 oka2 okb2 5 (by decide)).up _ (by omega)) (by omega)) ?_)
    rintro e w'' ⟨rfl, bb⟩
    exact ⟨_, rfl, rfl, bb, (fun h => absurd h (by decide))⟩
  · intro a' w' hF' hb hd
    exact if_does (wanted_free rfl) (Does.vals (r_load (hF'.at 2 rfl) (ld_RRat (vs := [.bool b17, .slice ad17 n17 c17, .slice ae17 m17 d17]) (o7.below hb) rfl rfl)) ⟨rfl, Below.refl _ _, (fun h => absurd h (by decide))⟩)
  · intro a' w' hF' hb hd
    exact if_does (wanted_free rfl) (Does.vals (r_load (hF'.at 1 rfl) (ld_RRat (vs := [.bool b18, .slice ad18 n18 c18, .slice ae18 m18 d18]) (o8.below hb) rfl rfl)) ⟨rfl, Below.refl _ _, (fun h => absurd h (by decide))⟩)
  · intro a' w' hF' hb hd
    have e60 : a'.tmps.getD 60 undef = .agg #[.bool b17, .slice ad17 n17 c17, .slice ae17 m17 d17] := hd _ 60 (Array.mem_of_getElem? (i := 0) rfl) rfl rfl
    have e61 : a'.tmps.getD 61 undef = .agg #[.bool b18, .slice ad18 n18 c18, .slice ae18 m18 d18] := hd _ 61 (Array.mem_of_getElem? (i := 1) rfl) rfl rfl
    refine if_does (wanted_free rfl) (Does.calls (r_call Try.func69 en69.1 en69.2 (map2 e60 e61)) (dCmp_any _ _ (((rawZ nega1 xa1 5 : Int) : Rat) / ((rawZ negb1 xb1 5 : Int) : Rat)) (((rawZ nega2 xa2 5 : Int) : Rat) / ((rawZ negb2 xb2 5 : Int) : Rat)) 5 _ (hh10.below hb) (hh12.below hb) (by omega)) ?_)
    rintro e w'' ⟨rfl, bb⟩
    exact ⟨_, rfl, rfl, bb, (fun h => absurd h (by decide))⟩
  · intro a' w' hF' hb hd
    have e59 : a'.tmps.getD 59 undef = .int .i64 (qc (((rawZ nega1 xa1 5 : Int) : Rat) / ((rawZ negb1 xb1 5 : Int) : Rat)) (((rawZ nega2 xa2 5 : Int) : Rat) / ((rawZ negb2 xb2 5 : Int) : Rat))) := hd _ 59 (Array.mem_of_getElem? (i := 0) rfl) rfl rfl
    have e62 : a'.tmps.getD 62 undef = .int .i64 (qc (((rawZ nega1 xa1 5 : Int) : Rat) / ((rawZ negb1 xb1 5 : Int) : Rat)) (((rawZ nega2 xa2 5 : Int) : Rat) / ((rawZ negb2 xb2 5 : Int) : Rat))) := hd _ 62 (Array.mem_of_getElem? (i := 1) rfl) rfl rfl
    exact if_does (wanted_free rfl) (Does.vals (r_bin e59 e62 eg_scalar (bi_int (ic_eql (c := true) (by simp)) (by simp))) ⟨rfl, Below.refl _ _, (fun h => absurd h (by decide))⟩)
  · intro a' w' hF' hb hd
    have e63 : a'.tmps.getD 63 undef = .bool true := hd _ 63 (Array.mem_of_getElem? (i := 0) rfl) rfl rfl
    exact if_does (wanted_free rfl) (Does.vals (r_move e63) ⟨rfl, Below.refl _ _, (fun h => absurd h (by decide))⟩)
  · intro a' w' hF' hb hd
    have e64 : a'.tmps.getD 64 undef = .bool true := hd _ 64 (Array.mem_of_getElem? (i := 0) rfl) rfl rfl
    exact if_does (wanted_by rfl rfl e64 rfl) (Does.vals (r_load (hF'.at 4 rfl) (ld_Rat (vs := [.bool b13, .slice ad13 n13 c13, .slice ae13 m13 d13]) (o5.below hb) rfl rfl)) ⟨rfl, Below.refl _ _, (fun h => absurd h (by decide))⟩)
  · intro a' w' hF' hb hd
    have e64 : a'.tmps.getD 64 undef = .bool true := hd _ 64 (Array.mem_of_getElem? (i := 0) rfl) rfl rfl
    exact if_does (wanted_by rfl rfl e64 rfl) (Does.vals (r_load (hF'.at 3 rfl) (ld_Rat (vs := [.bool b15, .slice ad15 n15 c15, .slice ae15 m15 d15]) (o6.below hb) rfl rfl)) ⟨rfl, Below.refl _ _, (fun h => absurd h (by decide))⟩)
  · intro a' w' hF' hb hd
    have e64 : a'.tmps.getD 64 undef = .bool true := hd _ 64 (Array.mem_of_getElem? (i := 2) rfl) rfl rfl
    have e65 : a'.tmps.getD 65 undef = .agg #[.bool b13, .slice ad13 n13 c13, .slice ae13 m13 d13] := hd _ 65 (Array.mem_of_getElem? (i := 0) rfl) rfl rfl
    have e66 : a'.tmps.getD 66 undef = .agg #[.bool b15, .slice ad15 n15 c15, .slice ae15 m15 d15] := hd _ 66 (Array.mem_of_getElem? (i := 1) rfl) rfl rfl
    refine if_does (wanted_by rfl rfl e64 rfl) (Does.calls (r_call Try.func70 en70.1 en70.2 (map2 e65 e66)) (rSame_any _ _ (((rawZ nega1 xa1 5 : Int) : Rat) / ((rawZ negb1 xb1 5 : Int) : Rat)) (((rawZ nega2 xa2 5 : Int) : Rat) / ((rawZ negb2 xb2 5 : Int) : Rat)) _ (hh6.below hb) (hh8.below hb)) ?_)
    rintro e w'' ⟨rfl, bb⟩
    exact ⟨_, rfl, rfl, bb, (fun h => absurd h (by decide))⟩
  · intro a' w' hF' hb hd
    have e64 : a'.tmps.getD 64 undef = .bool true := hd _ 64 (Array.mem_of_getElem? (i := 0) rfl) rfl rfl
    exact if_does (wanted_by rfl rfl e64 rfl) (Does.vals (r_load (hF'.at 2 rfl) (ld_RRat (vs := [.bool b17, .slice ad17 n17 c17, .slice ae17 m17 d17]) (o7.below hb) rfl rfl)) ⟨rfl, Below.refl _ _, (fun h => absurd h (by decide))⟩)
  · intro a' w' hF' hb hd
    have e64 : a'.tmps.getD 64 undef = .bool true := hd _ 64 (Array.mem_of_getElem? (i := 0) rfl) rfl rfl
    exact if_does (wanted_by rfl rfl e64 rfl) (Does.vals (r_load (hF'.at 1 rfl) (ld_RRat (vs := [.bool b18, .slice ad18 n18 c18, .slice ae18 m18 d18]) (o8.below hb) rfl rfl)) ⟨rfl, Below.refl _ _, (fun h => absurd h (by decide))⟩)
  · intro a' w' hF' hb hd
    have e64 : a'.tmps.getD 64 undef = .bool true := hd _ 64 (Array.mem_of_getElem? (i := 3) rfl) rfl rfl
    have e68 : a'.tmps.getD 68 undef = .agg #[.bool b17, .slice ad17 n17 c17, .slice ae17 m17 d17] := hd _ 68 (Array.mem_of_getElem? (i := 0) rfl) rfl rfl
    have e69 : a'.tmps.getD 69 undef = .agg #[.bool b18, .slice ad18 n18 c18, .slice ae18 m18 d18] := hd _ 69 (Array.mem_of_getElem? (i := 1) rfl) rfl rfl
    refine if_does (wanted_by rfl rfl e64 rfl) (Does.calls (r_call Try.func69 en69.1 en69.2 (map2 e68 e69)) (dCmp_any _ _ (((rawZ nega1 xa1 5 : Int) : Rat) / ((rawZ negb1 xb1 5 : Int) : Rat)) (((rawZ nega2 xa2 5 : Int) : Rat) / ((rawZ negb2 xb2 5 : Int) : Rat)) 5 _ (hh10.below hb) (hh12.below hb) (by omega)) ?_)
    rintro e w'' ⟨rfl, bb⟩
    exact ⟨_, rfl, rfl, bb, (fun h => absurd h (by decide))⟩
  · intro a' w' hF' hb hd
    have e64 : a'.tmps.getD 64 undef = .bool true := hd _ 64 (Array.mem_of_getElem? (i := 1) rfl) rfl rfl
    have e70 : a'.tmps.getD 70 undef = .int .i64 (qc (((rawZ nega1 xa1 5 : Int) : Rat) / ((rawZ negb1 xb1 5 : Int) : Rat)) (((rawZ nega2 xa2 5 : Int) : Rat) / ((rawZ negb2 xb2 5 : Int) : Rat))) := hd _ 70 (Array.mem_of_getElem? (i := 0) rfl) rfl rfl
    exact if_does (wanted_by rfl rfl e64 rfl) (Does.vals (r_bin e70 ev_c eg_scalar (bi_int (ic_eql (c := decide (qc (((rawZ nega1 xa1 5 : Int) : Rat) / ((rawZ negb1 xb1 5 : Int) : Rat)) (((rawZ nega2 xa2 5 : Int) : Rat) / ((rawZ negb2 xb2 5 : Int) : Rat)) = 0)) rfl) (by simp))) ⟨rfl, Below.refl _ _, (fun h => absurd h (by decide))⟩)
  · intro a' w' hF' hb hd
    have e64 : a'.tmps.getD 64 undef = .bool true := hd _ 64 (Array.mem_of_getElem? (i := 2) rfl) rfl rfl
    have e67 : a'.tmps.getD 67 undef = .bool (decide ((((rawZ nega1 xa1 5 : Int) : Rat) / ((rawZ negb1 xb1 5 : Int) : Rat)) = (((rawZ nega2 xa2 5 : Int) : Rat) / ((rawZ negb2 xb2 5 : Int) : Rat)))) := hd _ 67 (Array.mem_of_getElem? (i := 0) rfl) rfl rfl
    have e71 : a'.tmps.getD 71 undef = .bool (decide (qc (((rawZ nega1 xa1 5 : Int) : Rat) / ((rawZ negb1 xb1 5 : Int) : Rat)) (((rawZ nega2 xa2 5 : Int) : Rat) / ((rawZ negb2 xb2 5 : Int) : Rat)) = 0)) := hd _ 71 (Array.mem_of_getElem? (i := 1) rfl) rfl rfl
    exact if_does (wanted_by rfl rfl e64 rfl) (Does.vals (r_bin e67 e71 eg_bool (bb_eql (d := true) (same_qc _ _))) ⟨rfl, Below.refl _ _, (fun h => absurd h (by decide))⟩)
  · intro a' w' hF' hb hd
    have e64 : a'.tmps.getD 64 undef = .bool true := hd _ 64 (Array.mem_of_getElem? (i := 0) rfl) rfl rfl
    have e72 : a'.tmps.getD 72 undef = .bool true := hd _ 72 (Array.mem_of_getElem? (i := 1) rfl) rfl rfl
    exact if_does (wanted_free rfl) (Does.vals (r_pick_t e64 e72) ⟨rfl, Below.refl _ _, (fun h => absurd h (by decide))⟩)
  · intro a' w' hF' hb hd
    have e73 : a'.tmps.getD 73 undef = .bool true := hd _ 73 (Array.mem_of_getElem? (i := 0) rfl) rfl rfl
    exact if_does (wanted_free rfl) (Does.vals (r_move e73) ⟨rfl, Below.refl _ _, (fun h => absurd h (by decide))⟩)
  · intro a' w' hF' hb hd
    have e74 : a'.tmps.getD 74 undef = .bool true := hd _ 74 (Array.mem_of_getElem? (i := 0) rfl) rfl rfl
    exact if_does (wanted_by rfl rfl e74 rfl) (Does.vals (r_load (hF'.at 4 rfl) (ld_Rat (vs := [.bool b13, .slice ad13 n13 c13, .slice ae13 m13 d13]) (o5.below hb) rfl rfl)) ⟨rfl, Below.refl _ _, (fun h => absurd h (by decide))⟩)
  · intro a' w' hF' hb hd
    have e74 : a'.tmps.getD 74 undef = .bool true := hd _ 74 (Array.mem_of_getElem? (i := 0) rfl) rfl rfl
    exact if_does (wanted_by rfl rfl e74 rfl) (Does.vals (r_load (hF'.at 13 rfl) (ld_Raw5 (vs := [.bool nega1, .slice aa1 na1 ca1, .bool negb1, .slice ab1 nb1 cb1]) (o2.below hb) rfl rfl)) ⟨rfl, Below.refl _ _, (fun h => absurd h (by decide))⟩)
  · intro a' w' hF' hb hd
    have e74 : a'.tmps.getD 74 undef = .bool true := hd _ 74 (Array.mem_of_getElem? (i := 1) rfl) rfl rfl
    have e76 : a'.tmps.getD 76 undef = .agg #[.bool nega1, .slice aa1 na1 ca1, .bool negb1, .slice ab1 nb1 cb1] := hd _ 76 (Array.mem_of_getElem? (i := 0) rfl) rfl rfl
    refine if_does (wanted_by rfl rfl e74 rfl) (Does.calls (r_call Try.func46 en46.1 en46.2 (map2 e76 ev_c)) (Own5_any nega1 aa1 na1 ca1 xa1 negb1 ab1 nb1 cb1 xb1 5 _ (ia1.below hb) (ib1.below hb) (by omega)) ?_)
    rintro e w'' ⟨v', rfl, h', bb⟩
    exact ⟨_, rfl, h', bb, (fun h => absurd h (by decide))⟩
  · intro a' w' hF' hb hd
    have e74 : a'.tmps.getD 74 undef = .bool true := hd _ 74 (Array.mem_of_getElem? (i := 3) rfl) rfl rfl
    have e75 : a'.tmps.getD 75 undef = .agg #[.bool b13, .slice ad13 n13 c13, .slice ae13 m13 d13] := hd _ 75 (Array.mem_of_getElem? (i := 0) rfl) rfl rfl
    obtain ⟨v77_0, e77, h77_1⟩ : ∃ v, a'.tmps.getD 77 undef = v ∧ Rq w' v (((rawZ nega1 xa1 5 : Int) : Rat) / ((rawZ negb1 xb1 5 : Int) : Rat)) := ⟨_, rfl, hd _ 77 (Array.mem_of_getElem? (i := 1) rfl) rfl rfl⟩
    refine if_does (wanted_by rfl rfl e74 rfl) (Does.calls (r_call Try.func70 en70.1 en70.2 (map2 e75 e77)) (rSame_true _ _ (((rawZ nega1 xa1 5 : Int) : Rat) / ((rawZ negb1 xb1 5 : Int) : Rat)) (((rawZ nega1 xa1 5 : Int) : Rat) / ((rawZ negb1 xb1 5 : Int) : Rat)) _ (hh6.below hb) h77_1 rfl) ?_)
    rintro e w'' ⟨rfl, bb⟩
    exact ⟨_, rfl, rfl, bb, (fun h => absurd h (by decide))⟩
  · intro a' w' hF' hb hd
    have e74 : a'.tmps.getD 74 undef = .bool true := hd _ 74 (Array.mem_of_getElem? (i := 0) rfl) rfl rfl
    have e78 : a'.tmps.getD 78 undef = .bool true := hd _ 78 (Array.mem_of_getElem? (i := 1) rfl) rfl rfl
    exact if_does (wanted_free rfl) (Does.vals (r_pick_t e74 e78) ⟨rfl, Below.refl _ _, (fun h => absurd h (by decide))⟩)
  · intro a' w' hF' hb hd
    have e79 : a'.tmps.getD 79 undef = .bool true := hd _ 79 (Array.mem_of_getElem? (i := 0) rfl) rfl rfl
    exact if_does (wanted_free rfl) (Does.vals (r_move e79) ⟨rfl, Below.refl _ _, (fun h => absurd h (by decide))⟩)
  · intro a' w' hF' hb hd
    have e80 : a'.tmps.getD 80 undef = .bool true := hd _ 80 (Array.mem_of_getElem? (i := 0) rfl) rfl rfl
    exact if_does (wanted_by rfl rfl e80 rfl) (Does.vals (r_load (hF'.at 4 rfl) (ld_Rat (vs := [.bool b13, .slice ad13 n13 c13, .slice ae13 m13 d13]) (o5.below hb) rfl rfl)) ⟨rfl, Below.refl _ _, (fun h => absurd h (by decide))⟩)
  · intro a' w' hF' hb hd
    have e80 : a'.tmps.getD 80 undef = .bool true := hd _ 80 (Array.mem_of_getElem? (i := 0) rfl) rfl rfl
    exact if_does (wanted_by rfl rfl e80 rfl) (Does.vals (r_load (hF'.at 2 rfl) (ld_RRat (vs := [.bool b17, .slice ad17 n17 c17, .slice ae17 m17 d17]) (o7.below hb) rfl rfl)) ⟨rfl, Below.refl _ _, (fun h => absurd h (by decide))⟩)
  · intro a' w' hF' hb hd
    have e80 : a'.tmps.getD 80 undef = .bool true := hd _ 80 (Array.mem_of_getElem? (i := 2) rfl) rfl rfl
    have e81 : a'.tmps.getD 81 undef = .agg #[.bool b13, .slice ad13 n13 c13, .slice ae13 m13 d13] := hd _ 81 (Array.mem_of_getElem? (i := 0) rfl) rfl rfl
    have e82 : a'.tmps.getD 82 undef = .agg #[.bool b17, .slice ad17 n17 c17, .slice ae17 m17 d17] := hd _ 82 (Array.mem_of_getElem? (i := 1) rfl) rfl rfl
    refine if_does (wanted_by rfl rfl e80 rfl) (Does.calls (r_call Try.func51 en51.1 en51.2 (map2 e81 e82)) (Is5_any _ _ (((rawZ nega1 xa1 5 : Int) : Rat) / ((rawZ negb1 xb1 5 : Int) : Rat)) (((rawZ nega1 xa1 5 : Int) : Rat) / ((rawZ negb1 xb1 5 : Int) : Rat)) 5 5 _ (hh6.below hb) (hh10.below hb) (own5_lim nega1 negb1 oka1 okb1 5 (by decide)) rfl (by omega) (by omega)) ?_)
    rintro e w'' ⟨rfl, bb⟩
    exact ⟨_, rfl, rfl, bb, (fun h => absurd h (by decide))⟩
  · intro a' w' hF' hb hd
    have e80 : a'.tmps.getD 80 undef = .bool true := hd _ 80 (Array.mem_of_getElem? (i := 1) rfl) rfl rfl
    have e83 : a'.tmps.getD 83 undef = .int .i64 0 := hd _ 83 (Array.mem_of_getElem? (i := 0) rfl) rfl rfl
    exact if_does (wanted_by rfl rfl e80 rfl) (Does.vals (r_bin e83 ev_c eg_scalar (bi_int (ic_eql (c := true) (by simp)) (by simp))) ⟨rfl, Below.refl _ _, (fun h => absurd h (by decide))⟩)
  · intro a' w' hF' hb hd
    have e80 : a'.tmps.getD 80 undef = .bool true := hd _ 80 (Array.mem_of_getElem? (i := 0) rfl) rfl rfl
    have e84 : a'.tmps.getD 84 undef = .bool true := hd _ 84 (Array.mem_of_getElem? (i := 1) rfl) rfl rfl
    exact if_does (wanted_free rfl) (Does.vals (r_pick_t e80 e84) ⟨rfl, Below.refl _ _, (fun h => absurd h (by decide))⟩)
  · intro a' w' hF' hb hd
    have e85 : a'.tmps.getD 85 undef = .bool true := hd _ 85 (Array.mem_of_getElem? (i := 0) rfl) rfl rfl
    exact if_does (wanted_free rfl) (Does.vals (r_move e85) ⟨rfl, Below.refl _ _, (fun h => absurd h (by decide))⟩)
  · intro a' w' hF' hb hd
    have e86 : a'.tmps.getD 86 undef = .bool true := hd _ 86 (Array.mem_of_getElem? (i := 0) rfl) rfl rfl
    exact if_does (wanted_by rfl rfl e86 rfl) (Does.vals (r_load (hF'.at 3 rfl) (ld_Rat (vs := [.bool b15, .slice ad15 n15 c15, .slice ae15 m15 d15]) (o6.below hb) rfl rfl)) ⟨rfl, Below.refl _ _, (fun h => absurd h (by decide))⟩)
  · intro a' w' hF' hb hd
    have e86 : a'.tmps.getD 86 undef = .bool true := hd _ 86 (Array.mem_of_getElem? (i := 0) rfl) rfl rfl
    exact if_does (wanted_by rfl rfl e86 rfl) (Does.vals (r_load (hF'.at 1 rfl) (ld_RRat (vs := [.bool b18, .slice ad18 n18 c18, .slice ae18 m18 d18]) (o8.below hb) rfl rfl)) ⟨rfl, Below.refl _ _, (fun h => absurd h (by decide))⟩)
  · intro a' w' hF' hb hd
    have e86 : a'.tmps.getD 86 undef = .bool true := hd _ 86 (Array.mem_of_getElem? (i := 2) rfl) rfl rfl
    have e87 : a'.tmps.getD 87 undef = .agg #[.bool b15, .slice ad15 n15 c15, .slice ae15 m15 d15] := hd _ 87 (Array.mem_of_getElem? (i := 0) rfl) rfl rfl
    have e88 : a'.tmps.getD 88 undef = .agg #[.bool b18, .slice ad18 n18 c18, .slice ae18 m18 d18] := hd _ 88 (Array.mem_of_getElem? (i := 1) rfl) rfl rfl
    refine if_does (wanted_by rfl rfl e86 rfl) (Does.calls (r_call Try.func51 en51.1 en51.2 (map2 e87 e88)) (Is5_any _ _ (((rawZ nega2 xa2 5 : Int) : Rat) / ((rawZ negb2 xb2 5 : Int) : Rat)) (((rawZ nega2 xa2 5 : Int) : Rat) / ((rawZ negb2 xb2 5 : Int) : Rat)) 5 5 _ (hh8.below hb) (hh12.below hb) (own5_lim nega2 negb2 oka2 okb2 5 (by decide)) rfl (by omega) (by omega)) ?_)
    rintro e w'' ⟨rfl, bb⟩
    exact ⟨_, rfl, rfl, bb, (fun h => absurd h (by decide))⟩
  · intro a' w' hF' hb hd
    have e86 : a'.tmps.getD 86 undef = .bool true := hd _ 86 (Array.mem_of_getElem? (i := 1) rfl) rfl rfl
    have e89 : a'.tmps.getD 89 undef = .int .i64 0 := hd _ 89 (Array.mem_of_getElem? (i := 0) rfl) rfl rfl
    exact if_does (wanted_by rfl rfl e86 rfl) (Does.vals (r_bin e89 ev_c eg_scalar (bi_int (ic_eql (c := true) (by simp)) (by simp))) ⟨rfl, Below.refl _ _, (fun h => absurd h (by decide))⟩)
  · intro a' w' hF' hb hd
    have e86 : a'.tmps.getD 86 undef = .bool true := hd _ 86 (Array.mem_of_getElem? (i := 0) rfl) rfl rfl
    have e90 : a'.tmps.getD 90 undef = .bool true := hd _ 90 (Array.mem_of_getElem? (i := 1) rfl) rfl rfl
    exact if_does (wanted_free rfl) (Does.vals (r_pick_t e86 e90) ⟨rfl, Below.refl _ _, (fun h => absurd h (by decide))⟩)
  intro a w24 hF bb hall hne
  have e91 : a.tmps.getD 91 undef = .bool true := hall 34 91 rfl
  clear hall hne
  replace bel := below_to bel bb
  clear bb
  replace hF := hF.add e91
  clear e91
  refine E.opset (L' := [(4, .bool true), (91, .bool true), (56, .bool false), (8, .pointer (some ⟨g8, 0, none⟩)), (7, .pointer (some ⟨g7, 0, none⟩)), (6, .pointer (some ⟨g6, 0, none⟩)), (5, .pointer (some ⟨g5, 0, none⟩)), (18, .agg #[.bool b18, .slice ad18 n18 c18, .slice ae18 m18 d18]), (16, .agg #[.bool b17, .slice ad17 n17 c17, .slice ae17 m17 d17]), (14, .agg #[.bool b15, .slice ad15 n15 c15, .slice ae15 m15 d15]), (12, .agg #[.bool b13, .slice ad13 n13 c13, .slice ae13 m13 d13]), (10, .bool false), (9, .bool true), (3, .pointer (some ⟨g3, 0, none⟩)), (2, .pointer (some ⟨g2, 0, none⟩)), (0, .agg #[.bool nega1, .slice aa1 na1 ca1, .bool negb1, .slice ab1 nb1 cb1]), (1, .agg #[.bool nega2, .slice aa2 na2 ca2, .bool negb2, .slice ab2 nb2 cb2])]) hF (r_assign (hF.at 0 rfl)) rfl rfl rfl rfl fun a hF => ?_
  refine E.nil ?_
  refine wp_ret ?_
  refine bodyPost_ret (res_tmp Try.results11 (hF.at 0 rfl)) hF.dfr ?_
  exact ⟨rfl, bel⟩

end Go.Proofs.Ytjgafncpahbjkaa
