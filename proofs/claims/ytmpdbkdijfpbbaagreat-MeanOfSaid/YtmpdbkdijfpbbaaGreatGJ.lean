/- LwA LwB LwQ -/
import Derived.Test.YtmpdbkdijfpbbaaGreatGI

/- Laws of layer 5: Own, Told, Is, awake. -/
namespace Go.Proofs.YtmpdbkdijfpbbaaGreat
open Go.RowKit
set_option maxRecDepth 100000
set_option linter.unusedVariables false

theorem cross_of {q : Rat} {z : Int} {D : Nat} (h : q = mkRat z D) (hD : 0 < D) : q.num * (D : Int) = z * (q.den : Int) := by
  have h2 : mkRat q.num q.den = mkRat z D := by rw [Rat.mkRat_self]; exact h
  exact (Rat.mkRat_eq_iff q.den_nz (by omega)).1 h2
theorem own5_lim (a b : Bool) {x y : List Nat} (h1 : okb B32 x) (h2 : okb B32 y) (m : Nat) (hm : 1 ≤ m) : RLim ((rawZ a x m : Rat) / (rawZ b y m : Rat)) m :=
  RLim.up (rlim_mk2 (rawZ_limo a h1 m) (rawZ_limo b h2 m)) m (by omega)
set_option maxHeartbeats 1000000 in
theorem Own5_any (nega1 : Bool) (aa1 : Option Addr) (na1 ca1 : Nat) (xa1 : List Nat) (negb1 : Bool) (ab1 : Option Addr) (nb1 cb1 : Nat) (xb1 : List Nat) (m : Nat) (w : World) (ia1 : InX w aa1 na1 ca1 xa1) (ib1 : InX w ab1 nb1 cb1 xb1) (hm : m ≤ 1000) :
    Calls Tryz.prog 5 #[.agg #[.bool nega1, .slice aa1 na1 ca1, .bool negb1, .slice ab1 nb1 cb1], .int .i64 (m : Nat)] w (RqPost w ((rawZ nega1 xa1 m : Rat) / (rawZ negb1 xb1 m : Rat))) := by
  have oka1 := ia1.ok
  have okb1 := ib1.ok
  have bel : Below w.heap.size w w := Below.refl _ _
  refine E.enter (nt := 14) (L := [(0, .agg #[.bool nega1, .slice aa1 na1 ca1, .bool negb1, .slice ab1 nb1 cb1]), (1, .int .i64 ((m : Nat) : Int))]) Tryz.func5 rfl rfl rfl (args_cons (i := 0) rfl (args_cons (i := 1) rfl args_nil)) ?_
  intro a hF
  refine wp_seq ?_
  refine E.seq ?_
  obtain ⟨g2, w1, ge2, hr, bb, o2⟩ := own_box (P := Tryz.prog) (w := w) (cs := [.bool nega1, .slice aa1 na1 ca1, .bool negb1, .slice ab1 nb1 cb1]) (v := .agg #[.bool nega1, .slice aa1 na1 ca1, .bool negb1, .slice ab1 nb1 cb1]) 26 rfl (niB (niS (niB (niS ni0))))
  replace ge2 : w.heap.size ≤ g2 := by rw [← ge2]; exact bel.size
  refine E.opv hF (r_box (hF.at 0 rfl) hr) rfl rfl rfl rfl fun a hF => ?_
  clear hr
  replace ia1 := ia1.below bb
  replace ib1 := ib1.below bb
  replace bel := below_to bel bb
  clear bb
  obtain ⟨g4, w2, ge4, hr, bb, o4⟩ := own_alloc (P := Tryz.prog) (w := w1) (cs := [.bool false, .slice none 0 0, .slice none 0 0]) 32 ze_Rat rfl (niB (niS (niS ni0)))
  have ne2_4 : g2 ≠ g4 := by rw [← ge4]; exact o2.ne_new
  replace ge4 : w.heap.size ≤ g4 := by rw [← ge4]; exact bel.size
  refine E.opv hF (r_alloc hr) rfl rfl rfl rfl fun a hF => ?_
  clear hr
  replace ia1 := ia1.below bb
  replace ib1 := ib1.below bb
  replace o2 := o2.below bb
  replace bel := below_to bel bb
  clear bb
  refine E.nil ?_
  refine wp_seq ?_
  refine E.drawn 9 mixed hF [5, 6, 7, 8, 9, 10, 11, 12, 13] [(fun _ v => v = .pointer (some ⟨g2, 0, none⟩)), (fun _ v => v = .agg #[.bool nega1, .slice aa1 na1 ca1]), (fun _ v => v = .int .i64 ((m : Nat) : Int)), (fun w v => Wz w v (rawZ nega1 xa1 m)), (fun _ v => v = .pointer (some ⟨g2, 2, none⟩)), (fun _ v => v = .agg #[.bool negb1, .slice ab1 nb1 cb1]), (fun _ v => v = .int .i64 ((m : Nat) : Int)), (fun w v => Wz w v (rawZ negb1 xb1 m)), (fun w v => Rq w v ((rawZ nega1 xa1 m : Rat) / (rawZ negb1 xb1 m : Rat)))] [] (by decide +kernel) (by decide +kernel) rfl rfl rfl ⟨(Mb.eq _), (Mb.eq _), (Mb.eq _), (fun _ _ _ h hb => h.below hb), (Mb.eq _), (Mb.eq _), (Mb.eq _), (fun _ _ _ h hb => h.below hb), (fun _ _ _ h hb => h.below hb), trivial⟩ trivial ⟨?_, ?_, ?_, ?_, ?_, ?_, ?_, ?_, ?_, trivial⟩ ?_
  · intro a' w' hF' hb hd
    exact if_does (wanted_free rfl) (Does.vals (r_field (hF'.at 1 rfl) (fa_Raw5_0 (p := 0) rfl)) ⟨rfl, Below.refl _ _, (fun h => absurd h (by decide))⟩)
  · intro a' w' hF' hb hd
    have e5 : a'.tmps.getD 5 undef = .pointer (some ⟨g2, 0, none⟩) := hd _ 5 (Array.mem_of_getElem? (i := 0) rfl) rfl rfl
    exact if_does (wanted_free rfl) (Does.vals (r_load e5 (ld_Raw (vs := [.bool nega1, .slice aa1 na1 ca1]) (o2.below hb) rfl rfl)) ⟨rfl, Below.refl _ _, (fun h => absurd h (by decide))⟩)
  · intro a' w' hF' hb hd
    exact if_does (wanted_free rfl) (Does.vals (r_move (hF'.at 3 rfl)) ⟨rfl, Below.refl _ _, (fun h => absurd h (by decide))⟩)
  · intro a' w' hF' hb hd
    have e6 : a'.tmps.getD 6 undef = .agg #[.bool nega1, .slice aa1 na1 ca1] := hd _ 6 (Array.mem_of_getElem? (i := 0) rfl) rfl rfl
    have e7 : a'.tmps.getD 7 undef = .int .i64 ((m : Nat) : Int) := hd _ 7 (Array.mem_of_getElem? (i := 1) rfl) rfl rfl
    refine if_does (wanted_free rfl) (Does.calls (r_call Tryz.func25 en25.1 en25.2 (map2 e6 e7)) (own_any nega1 aa1 na1 ca1 m xa1 _ (ia1.below hb) (by omega)) ?_)
    rintro e w'' ⟨v', rfl, h', bb⟩
    exact ⟨_, rfl, h', bb, (fun h => absurd h (by decide))⟩
  · intro a' w' hF' hb hd
    exact if_does (wanted_free rfl) (Does.vals (r_field (hF'.at 1 rfl) (fa_Raw5_1 (p := 2) rfl)) ⟨rfl, Below.refl _ _, (fun h => absurd h (by decide))⟩)
  · intro a' w' hF' hb hd
    have e9 : a'.tmps.getD 9 undef = .pointer (some ⟨g2, 2, none⟩) := hd _ 9 (Array.mem_of_getElem? (i := 0) rfl) rfl rfl
    exact if_does (wanted_free rfl) (Does.vals (r_load e9 (ld_Raw (vs := [.bool negb1, .slice ab1 nb1 cb1]) (o2.below hb) rfl rfl)) ⟨rfl, Below.refl _ _, (fun h => absurd h (by decide))⟩)
  · intro a' w' hF' hb hd
    exact if_does (wanted_free rfl) (Does.vals (r_move (hF'.at 3 rfl)) ⟨rfl, Below.refl _ _, (fun h => absurd h (by decide))⟩)
  · intro a' w' hF' hb hd
    have e10 : a'.tmps.getD 10 undef = .agg #[.bool negb1, .slice ab1 nb1 cb1] := hd _ 10 (Array.mem_of_getElem? (i := 0) rfl) rfl rfl
    have e11 : a'.tmps.getD 11 undef = .int .i64 ((m : Nat) : Int) := hd _ 11 (Array.mem_of_getElem? (i := 1) rfl) rfl rfl
    refine if_does (wanted_free rfl) (Does.calls (r_call Tryz.func25 en25.1 en25.2 (map2 e10 e11)) (own_any negb1 ab1 nb1 cb1 m xb1 _ (ib1.below hb) (by omega)) ?_)
    rintro e w'' ⟨v', rfl, h', bb⟩
    exact ⟨_, rfl, h', bb, (fun h => absurd h (by decide))⟩
  · intro a' w' hF' hb hd
    obtain ⟨v8_0, e8, h8_1⟩ : ∃ v, a'.tmps.getD 8 undef = v ∧ Wz w' v (rawZ nega1 xa1 m) := ⟨_, rfl, hd _ 8 (Array.mem_of_getElem? (i := 0) rfl) rfl rfl⟩
    obtain ⟨v12_0, e12, h12_1⟩ : ∃ v, a'.tmps.getD 12 undef = v ∧ Wz w' v (rawZ negb1 xb1 m) := ⟨_, rfl, hd _ 12 (Array.mem_of_getElem? (i := 1) rfl) rfl rfl⟩
    refine if_does (wanted_free rfl) (Does.calls (r_call Tryz.func24 en24.1 en24.2 (map2 e8 e12)) (rmk_any _ _ (rawZ nega1 xa1 m) (rawZ negb1 xb1 m) _ h8_1 h12_1) ?_)
    rintro e w'' ⟨v', rfl, h', bb⟩
    exact ⟨_, rfl, h', bb, (fun h => absurd h (by decide))⟩
  intro a w3 hF bb hall hne
  obtain ⟨vv4, e13, hh5⟩ : ∃ v, a.tmps.getD 13 undef = v ∧ Rq w3 v ((rawZ nega1 xa1 m : Rat) / (rawZ negb1 xb1 m : Rat)) := ⟨_, rfl, hall 8 13 rfl⟩
  clear hall hne
  replace o4 := o4.below bb
  replace bel := below_to bel bb
  clear bb
  obtain ⟨b6, ad6, n6, c6, ae6, m6, d6, rfl, hn6, hd6⟩ := Rq.shape hh5
  have hf7 := Wc.abs hn6
  replace hF := hF.add e13
  clear e13
  obtain ⟨w8, hr, tu, on⟩ := st_Rat (vs := [.bool b6, .slice ad6 n6 c6, .slice ae6 m6 d6]) o4 rfl rfl (ocB (ocS (ocS oc0))) (niB (niS (niS ni0))) (o := 0) rfl
  have kp := tu.keep o4
  refine E.st hF (r_store (hF.at 1 rfl) (hF.at 0 rfl) (hr _ rfl)) rfl rfl fun a hF => ?_
  clear hr
  replace hh5 := hh5.keep kp
  replace hn6 := hn6.keep kp
  replace hf7 := hf7.keep kp
  replace hd6 := hd6.keep kp
  replace bel := tu.below bel ge4
  clear tu kp
  replace o4 := on
  clear on
  refine E.nil ?_
  refine wp_ret ?_
  refine bodyPost_ret (res_cell Tryz.results5 (hF.at 1 rfl) (ld_Rat (vs := [.bool b6, .slice ad6 n6 c6, .slice ae6 m6 d6]) o4 rfl rfl)) hF.dfr ?_
  exact ⟨_, rfl, hh5, bel⟩

set_option maxHeartbeats 1000000 in
theorem Told5_any (nega1 : Bool) (aa1 : Option Addr) (na1 ca1 : Nat) (xa1 : List Nat) (negb1 : Bool) (ab1 : Option Addr) (nb1 cb1 : Nat) (xb1 : List Nat) (m : Nat) (w : World) (ia1 : InX w aa1 na1 ca1 xa1) (ib1 : InX w ab1 nb1 cb1 xb1) (hm : m ≤ 1000) (hm1 : 1 ≤ m) :
    Calls Tryz.prog 6 #[.agg #[.bool nega1, .slice aa1 na1 ca1, .bool negb1, .slice ab1 nb1 cb1], .int .i64 (m : Nat)] w (RrPost w ((rawZ nega1 xa1 m : Rat) / (rawZ negb1 xb1 m : Rat)) m) := by
  have oka1 := ia1.ok
  have okb1 := ib1.ok
  have bel : Below w.heap.size w w := Below.refl _ _
  refine E.enter (nt := 14) (L := [(0, .agg #[.bool nega1, .slice aa1 na1 ca1, .bool negb1, .slice ab1 nb1 cb1]), (1, .int .i64 ((m : Nat) : Int))]) Tryz.func6 rfl rfl rfl (args_cons (i := 0) rfl (args_cons (i := 1) rfl args_nil)) ?_
  intro a hF
  refine wp_seq ?_
  refine E.seq ?_
  obtain ⟨g2, w1, ge2, hr, bb, o2⟩ := own_box (P := Tryz.prog) (w := w) (cs := [.bool nega1, .slice aa1 na1 ca1, .bool negb1, .slice ab1 nb1 cb1]) (v := .agg #[.bool nega1, .slice aa1 na1 ca1, .bool negb1, .slice ab1 nb1 cb1]) 26 rfl (niB (niS (niB (niS ni0))))
  replace ge2 : w.heap.size ≤ g2 := by rw [← ge2]; exact bel.size
  refine E.opv hF (r_box (hF.at 0 rfl) hr) rfl rfl rfl rfl fun a hF => ?_
  clear hr
  replace ia1 := ia1.below bb
  replace ib1 := ib1.below bb
  replace bel := below_to bel bb
  clear bb
  obtain ⟨g4, w2, ge4, hr, bb, o4⟩ := own_alloc (P := Tryz.prog) (w := w1) (cs := [.bool false, .slice none 0 0, .slice none 0 0]) 39 ze_RRat rfl (niB (niS (niS ni0)))
  have ne2_4 : g2 ≠ g4 := by rw [← ge4]; exact o2.ne_new
  replace ge4 : w.heap.size ≤ g4 := by rw [← ge4]; exact bel.size
  refine E.opv hF (r_alloc hr) rfl rfl rfl rfl fun a hF => ?_
  clear hr
  replace ia1 := ia1.below bb
  replace ib1 := ib1.below bb
  replace o2 := o2.below bb
  replace bel := below_to bel bb
  clear bb
  refine E.nil ?_
  refine wp_seq ?_
  refine E.drawn 9 mixed hF [5, 6, 7, 8, 9, 10, 11, 12, 13] [(fun _ v => v = .pointer (some ⟨g2, 0, none⟩)), (fun _ v => v = .agg #[.bool nega1, .slice aa1 na1 ca1]), (fun _ v => v = .int .i64 ((m : Nat) : Int)), (fun w v => Rz w v (rawZ nega1 xa1 m)), (fun _ v => v = .pointer (some ⟨g2, 2, none⟩)), (fun _ v => v = .agg #[.bool negb1, .slice ab1 nb1 cb1]), (fun _ v => v = .int .i64 ((m : Nat) : Int)), (fun w v => Rz w v (rawZ negb1 xb1 m)), (fun w v => Rr w v (((rawZ nega1 xa1 m : Int) : Rat) / ((rawZ negb1 xb1 m : Int) : Rat)) (m))] [] (by decide +kernel) (by decide +kernel) rfl rfl rfl ⟨(Mb.eq _), (Mb.eq _), (Mb.eq _), (fun _ _ _ h hb => h.below hb), (Mb.eq _), (Mb.eq _), (Mb.eq _), (fun _ _ _ h hb => h.below hb), (fun _ _ _ h hb => h.below hb), trivial⟩ trivial ⟨?_, ?_, ?_, ?_, ?_, ?_, ?_, ?_, ?_, trivial⟩ ?_
  · intro a' w' hF' hb hd
    exact if_does (wanted_free rfl) (Does.vals (r_field (hF'.at 1 rfl) (fa_Raw5_0 (p := 0) rfl)) ⟨rfl, Below.refl _ _, (fun h => absurd h (by decide))⟩)
  · intro a' w' hF' hb hd
    have e5 : a'.tmps.getD 5 undef = .pointer (some ⟨g2, 0, none⟩) := hd _ 5 (Array.mem_of_getElem? (i := 0) rfl) rfl rfl
    exact if_does (wanted_free rfl) (Does.vals (r_load e5 (ld_Raw (vs := [.bool nega1, .slice aa1 na1 ca1]) (o2.below hb) rfl rfl)) ⟨rfl, Below.refl _ _, (fun h => absurd h (by decide))⟩)
  · intro a' w' hF' hb hd
    exact if_does (wanted_free rfl) (Does.vals (r_move (hF'.at 3 rfl)) ⟨rfl, Below.refl _ _, (fun h => absurd h (by decide))⟩)
  · intro a' w' hF' hb hd
    have e6 : a'.tmps.getD 6 undef = .agg #[.bool nega1, .slice aa1 na1 ca1] := hd _ 6 (Array.mem_of_getElem? (i := 0) rfl) rfl rfl
    have e7 : a'.tmps.getD 7 undef = .int .i64 ((m : Nat) : Int) := hd _ 7 (Array.mem_of_getElem? (i := 1) rfl) rfl rfl
    refine if_does (wanted_free rfl) (Does.calls (r_call Tryz.func27 en27.1 en27.2 (map2 e6 e7)) (told_any nega1 aa1 na1 ca1 m xa1 _ (ia1.below hb) (by omega)) ?_)
    rintro e w'' ⟨v', rfl, h', bb⟩
    exact ⟨_, rfl, h', bb, (fun h => absurd h (by decide))⟩
  · intro a' w' hF' hb hd
    exact if_does (wanted_free rfl) (Does.vals (r_field (hF'.at 1 rfl) (fa_Raw5_1 (p := 2) rfl)) ⟨rfl, Below.refl _ _, (fun h => absurd h (by decide))⟩)
  · intro a' w' hF' hb hd
    have e9 : a'.tmps.getD 9 undef = .pointer (some ⟨g2, 2, none⟩) := hd _ 9 (Array.mem_of_getElem? (i := 0) rfl) rfl rfl
    exact if_does (wanted_free rfl) (Does.vals (r_load e9 (ld_Raw (vs := [.bool negb1, .slice ab1 nb1 cb1]) (o2.below hb) rfl rfl)) ⟨rfl, Below.refl _ _, (fun h => absurd h (by decide))⟩)
  · intro a' w' hF' hb hd
    exact if_does (wanted_free rfl) (Does.vals (r_move (hF'.at 3 rfl)) ⟨rfl, Below.refl _ _, (fun h => absurd h (by decide))⟩)
  · intro a' w' hF' hb hd
    have e10 : a'.tmps.getD 10 undef = .agg #[.bool negb1, .slice ab1 nb1 cb1] := hd _ 10 (Array.mem_of_getElem? (i := 0) rfl) rfl rfl
    have e11 : a'.tmps.getD 11 undef = .int .i64 ((m : Nat) : Int) := hd _ 11 (Array.mem_of_getElem? (i := 1) rfl) rfl rfl
    refine if_does (wanted_free rfl) (Does.calls (r_call Tryz.func27 en27.1 en27.2 (map2 e10 e11)) (told_any negb1 ab1 nb1 cb1 m xb1 _ (ib1.below hb) (by omega)) ?_)
    rintro e w'' ⟨v', rfl, h', bb⟩
    exact ⟨_, rfl, h', bb, (fun h => absurd h (by decide))⟩
  · intro a' w' hF' hb hd
    obtain ⟨v8_0, e8, h8_1⟩ : ∃ v, a'.tmps.getD 8 undef = v ∧ Rz w' v (rawZ nega1 xa1 m) := ⟨_, rfl, hd _ 8 (Array.mem_of_getElem? (i := 0) rfl) rfl rfl⟩
    obtain ⟨v12_0, e12, h12_1⟩ : ∃ v, a'.tmps.getD 12 undef = v ∧ Rz w' v (rawZ negb1 xb1 m) := ⟨_, rfl, hd _ 12 (Array.mem_of_getElem? (i := 1) rfl) rfl rfl⟩
    refine if_does (wanted_free rfl) (Does.calls (r_call Tryz.func26 en26.1 en26.2 (map2 e8 e12)) (dmk_any _ _ (rawZ nega1 xa1 m) (rawZ negb1 xb1 m) m _ h8_1 h12_1 (Lim.up (rawZ_limo nega1 oka1 m) _ (by omega)) (Lim.up (rawZ_limo negb1 okb1 m) _ (by omega)) (by omega)) ?_)
    rintro e w'' ⟨v', rfl, h', bb⟩
    exact ⟨_, rfl, h', bb, (fun h => absurd h (by decide))⟩
  intro a w3 hF bb hall hne
  obtain ⟨vv4, e13, hh5⟩ : ∃ v, a.tmps.getD 13 undef = v ∧ Rr w3 v (((rawZ nega1 xa1 m : Int) : Rat) / ((rawZ negb1 xb1 m : Int) : Rat)) (m) := ⟨_, rfl, hall 8 13 rfl⟩
  clear hall hne
  replace o4 := o4.below bb
  replace bel := below_to bel bb
  clear bb
  obtain ⟨b6, ad6, n6, c6, ae6, m6, d6, z6, D6, rfl, hn6, hd6, hD6, hq6, lz6, lD6⟩ := Rr.shape hh5
  have ha6 := hn6.abs
  replace hF := hF.add e13
  clear e13
  obtain ⟨w7, hr, tu, on⟩ := st_RRat (vs := [.bool b6, .slice ad6 n6 c6, .slice ae6 m6 d6]) o4 rfl rfl (ocB (ocS (ocS oc0))) (niB (niS (niS ni0))) (o := 0) rfl
  have kp := tu.keep o4
  refine E.st hF (r_store (hF.at 1 rfl) (hF.at 0 rfl) (hr _ rfl)) rfl rfl fun a hF => ?_
  clear hr
  replace hh5 := hh5.keep kp
  replace hn6 := hn6.keep kp
  replace ha6 := ha6.keep kp
  replace hd6 := hd6.keep kp
  replace bel := tu.below bel ge4
  clear tu kp
  replace o4 := on
  clear on
  refine E.nil ?_
  refine wp_ret ?_
  refine bodyPost_ret (res_cell Tryz.results6 (hF.at 1 rfl) (ld_RRat (vs := [.bool b6, .slice ad6 n6 c6, .slice ae6 m6 d6]) o4 rfl rfl)) hF.dfr ?_
  exact ⟨_, rfl, hh5, bel⟩

set_option maxHeartbeats 1000000 in
theorem Is5_any (v1 v2 : Value) (q1 q2 : Rat) (k1 k2 : Nat) (w : World) (h1 : Rq w v1 q1) (h2 : Rr w v2 q2 k2) (l1 : RLim q1 k1) (e : q1 = q2) (hk1 : k1 ≤ 20000) (hk2 : k2 ≤ 20000) :
    Calls Tryz.prog 9 #[v1, v2] w (ZeroPost w) := by
  obtain ⟨b1, ad1, n1, c1, ae1, m1, d1, rfl, hn1, hd1⟩ := h1.shape
  have h1 : Rq w (.agg #[.bool b1, .slice ad1 n1 c1, .slice ae1 m1 d1]) q1 := ⟨_, _, _, _, _, _, _, rfl, hn1, hd1⟩
  have ha1 := hn1.abs
  have hb1 := hn1.neg
  replace h2 : Rr w v2 q1 k2 := h2.cast e.symm
  clear e q2
  obtain ⟨b2, ad2, n2, c2, ae2, m2, d2, z2, D2, rfl, hn2, hd2, hD2, hq2, lz2, lD2⟩ := h2.shape
  have h2 : Rr w (.agg #[.bool b2, .slice ad2 n2 c2, .slice ae2 m2 d2]) q1 k2 := ⟨_, _, _, _, _, _, _, _, _, rfl, hn2, hd2, hD2, hq2, lz2, lD2⟩
  have ha2 := hn2.abs
  have hb2 := hn2.neg
  replace hq2 := Lib.hid hq2
  have HX := Lib.hid (cross_of hq2.out hD2)
  have hdl := dl_pos (by decide : 2 ≤ 2) (Rat.den_pos q1)
  have bel : Below w.heap.size w w := Below.refl _ _
  refine E.enter (nt := 45) (L := [(0, .agg #[.bool b1, .slice ad1 n1 c1, .slice ae1 m1 d1]), (1, .agg #[.bool b2, .slice ad2 n2 c2, .slice ae2 m2 d2])]) Tryz.func9 rfl rfl rfl (args_cons (i := 0) rfl (args_cons (i := 1) rfl args_nil)) ?_
  intro a hF
  refine wp_seq ?_
  refine E.seq ?_
  obtain ⟨g2, w1, ge2, hr, bb, o2⟩ := own_box (P := Tryz.prog) (w := w) (cs := [.bool b1, .slice ad1 n1 c1, .slice ae1 m1 d1]) (v := .agg #[.bool b1, .slice ad1 n1 c1, .slice ae1 m1 d1]) 32 rfl (niB (niS (niS ni0)))
  replace ge2 : w.heap.size ≤ g2 := by rw [← ge2]; exact bel.size
  refine E.opv hF (r_box (hF.at 0 rfl) hr) rfl rfl rfl rfl fun a hF => ?_
  clear hr
  replace h2 := h2.below bb
  replace hn2 := hn2.below bb
  replace ha2 := ha2.below bb
  replace hd2 := hd2.below bb
  replace h1 := h1.below bb
  replace hn1 := hn1.below bb
  replace ha1 := ha1.below bb
  replace hd1 := hd1.below bb
  replace bel := below_to bel bb
  clear bb
  obtain ⟨g3, w2, ge3, hr, bb, o3⟩ := own_box (P := Tryz.prog) (w := w1) (cs := [.bool b2, .slice ad2 n2 c2, .slice ae2 m2 d2]) (v := .agg #[.bool b2, .slice ad2 n2 c2, .slice ae2 m2 d2]) 39 rfl (niB (niS (niS ni0)))
  have ne2_3 : g2 ≠ g3 := by rw [← ge3]; exact o2.ne_new
  replace ge3 : w.heap.size ≤ g3 := by rw [← ge3]; exact bel.size
  refine E.opv hF (r_box (hF.at 2 rfl) hr) rfl rfl rfl rfl fun a hF => ?_
  clear hr
  replace ha1 := ha1.below bb
  replace hd1 := hd1.below bb
  replace h1 := h1.below bb
  replace hn1 := hn1.below bb
  replace h2 := h2.below bb
  replace hn2 := hn2.below bb
  replace ha2 := ha2.below bb
  replace hd2 := hd2.below bb
  replace o2 := o2.below bb
  replace bel := below_to bel bb
  clear bb
  refine E.opv hF (r_assign ev_c) rfl rfl rfl rfl fun a hF => ?_
  refine E.nil ?_
  refine wp_seq ?_
  refine E.drawn 5 mixed hF [9, 10, 11, 12, 5] [(fun _ v => v = .agg #[.bool b1, .slice ad1 n1 c1, .slice ae1 m1 d1]), (fun w v => Wc w v (Rat.num (q1))), (fun _ v => v = .agg #[.bool b1, .slice ad1 n1 c1, .slice ae1 m1 d1]), (fun w v => Dg w .u32 B32 v (Rat.den (q1))), (fun w v => ∃ g, v = .pointer (some ⟨g, 0, none⟩) ∧ w2.heap.size ≤ g ∧ Own w g [.bool false, .slice none 0 0])] [4] (by decide +kernel) (by decide +kernel) rfl rfl rfl ⟨(Mb.eq _), (fun _ _ _ h hb => h.below hb), (Mb.eq _), (fun _ _ _ h hb => h.below hb), (fun _ _ _ ⟨g, e, l, o⟩ hb => ⟨g, e, l, o.below hb⟩), trivial⟩ ⟨fun _ _ ⟨g, e, _, o⟩ => ⟨g, e, o.lt⟩, trivial⟩ ⟨?_, ?_, ?_, ?_, ?_, trivial⟩ ?_
  · intro a' w' hF' hb hd
    exact if_does (wanted_free rfl) (Does.vals (r_load (hF'.at 2 rfl) (ld_Rat (vs := [.bool b1, .slice ad1 n1 c1, .slice ae1 m1 d1]) (o2.below hb) rfl rfl)) ⟨rfl, Below.refl _ _, (fun h => absurd h (by decide))⟩)
  · intro a' w' hF' hb hd
    have e9 : a'.tmps.getD 9 undef = .agg #[.bool b1, .slice ad1 n1 c1, .slice ae1 m1 d1] := hd _ 9 (Array.mem_of_getElem? (i := 0) rfl) rfl rfl
    refine if_does (wanted_free rfl) (Does.calls (r_call Tryz.func36 en36.1 en36.2 (map1 e9)) (rnum_any _ (q1) _ (h1.below hb)) ?_)
    rintro e w'' ⟨v', rfl, h', bb⟩
    exact ⟨_, rfl, h', bb, (fun h => absurd h (by decide))⟩
  · intro a' w' hF' hb hd
    exact if_does (wanted_free rfl) (Does.vals (r_load (hF'.at 2 rfl) (ld_Rat (vs := [.bool b1, .slice ad1 n1 c1, .slice ae1 m1 d1]) (o2.below hb) rfl rfl)) ⟨rfl, Below.refl _ _, (fun h => absurd h (by decide))⟩)
  · intro a' w' hF' hb hd
    have e11 : a'.tmps.getD 11 undef = .agg #[.bool b1, .slice ad1 n1 c1, .slice ae1 m1 d1] := hd _ 11 (Array.mem_of_getElem? (i := 0) rfl) rfl rfl
    refine if_does (wanted_free rfl) (Does.calls (r_call Tryz.func37 en37.1 en37.2 (map1 e11)) (rden_any _ (q1) _ (h1.below hb)) ?_)
    rintro e w'' ⟨v', rfl, h', bb⟩
    exact ⟨_, rfl, h', bb, (fun h => absurd h (by decide))⟩
  · intro a' w' hF' hb hd
    obtain ⟨g, w2, ge, hr, bb, on⟩ := own_alloc (P := Tryz.prog) (w := w') (cs := [.bool false, .slice none 0 0]) 30 ze_Int rfl (niB (niS ni0))
    subst ge
    exact if_does (wanted_free rfl) (Does.vals (r_alloc hr) ⟨⟨_, rfl, hb.size, on⟩, bb, fun _ => rfl⟩)
  intro a w3 hF bb hall hne
  obtain ⟨vv4, e10, hh5⟩ : ∃ v, a.tmps.getD 10 undef = v ∧ Wc w3 v (Rat.num (q1)) := ⟨_, rfl, hall 1 10 rfl⟩
  obtain ⟨vv6, e12, hh7⟩ : ∃ v, a.tmps.getD 12 undef = v ∧ Dg w3 .u32 B32 v (Rat.den (q1)) := ⟨_, rfl, hall 3 12 rfl⟩
  obtain ⟨g5, e5, ge5, o5⟩ : ∃ g, a.tmps.getD 5 undef = .pointer (some ⟨g, 0, none⟩) ∧ w2.heap.size ≤ g ∧ Own w3 g [.bool false, .slice none 0 0] := hall 4 5 rfl
  have ne3_5 : g3 ≠ g5 := Nat.ne_of_lt (Nat.lt_of_lt_of_le o3.lt ge5)
  replace ge5 : w.heap.size ≤ g5 := Nat.le_trans bel.size ge5
  clear hall hne
  replace ha2 := ha2.below bb
  replace hd2 := hd2.below bb
  replace h2 := h2.below bb
  replace hn2 := hn2.below bb
  replace o3 := o3.below bb
  replace bel := below_to bel bb
  clear bb
  obtain ⟨ad8, n8, c8, rfl, _⟩ := Wc.shape hh5
  replace hF := hF.add e10
  clear e10
  obtain ⟨ad9, n9, c9, rfl⟩ := Dg.form hh7
  replace hF := hF.add e12
  clear e12
  replace hF := hF.add e5
  clear e5
  obtain ⟨w10, hr, tu, on⟩ := st_Int (vs := [.bool (decide (Rat.num (q1) < 0)), .slice ad8 n8 c8]) o5 rfl rfl (ocB (ocS oc0)) (niB (niS ni0)) (o := 0) rfl
  have kp := tu.keep o5
  refine E.st hF (r_store (hF.at 0 rfl) (hF.at 2 rfl) (hr _ rfl)) rfl rfl fun a hF => ?_
  clear hr
  replace hh7 := hh7.keep kp
  replace ha2 := ha2.keep kp
  replace hd2 := hd2.keep kp
  replace h2 := h2.keep kp
  replace hn2 := hn2.keep kp
  replace hh5 := hh5.keep kp
  replace o3 := tu.own o3 ne3_5
  replace bel := tu.below bel ge5
  clear tu kp
  replace o5 := on
  clear on
  have hf11 := Wc.abs hh5
  refine E.opv hF (r_assign (hF.at 1 rfl)) rfl rfl rfl rfl fun a hF => ?_
  refine E.nil ?_
  refine wp_seq ?_
  refine wp_seq ?_
  refine E.seq ?_
  refine E.opv hF (r_move (hF.at 0 rfl)) rfl rfl rfl rfl fun a hF => ?_
  refine E.call hF (r_call Tryz.func38 en38.1 en38.2 (map1 (hF.at 0 rfl))) (bits_any _ (Rat.den (q1)) _ (Dg.nt hh7)) rfl rfl rfl rfl ?_
  rintro e w12 ⟨rfl, hw⟩
  have bb : Below w10.heap.size w10 w12 := by rw [hw]; exact Below.refl _ _
  clear hw
  refine ⟨_, rfl, ?_⟩
  intro a hF
  replace hh7 := hh7.below bb
  replace ha2 := ha2.below bb
  replace hd2 := hd2.below bb
  replace h2 := h2.below bb
  replace hn2 := hn2.below bb
  replace hf11 := hf11.below bb
  replace hh5 := hh5.below bb
  replace o3 := o3.below bb
  replace o5 := o5.below bb
  replace bel := below_to bel bb
  clear bb
  refine E.opv hF (r_bin (hF.at 0 rfl) ev_c eg_scalar (bi_int (ic_eql (c := false) (eq0f (by omega))) (by simp))) rfl rfl rfl rfl fun a hF => ?_
  refine E.opv hF (r_move (hF.at 0 rfl)) rfl rfl rfl rfl fun a hF => ?_
  refine E.opvg hF (r_field (hF.at 5 rfl) (fa_Int_1 (p := 1) rfl)) (wanted_by rfl rfl (hF.at 0 rfl) rfl) rfl rfl rfl fun a hF => ?_
  refine E.opvg hF (r_load (hF.at 0 rfl) (ld_Nat (v := .slice ad8 n8 c8) o5 rfl)) (wanted_by rfl rfl (hF.at 1 rfl) rfl) rfl rfl rfl fun a hF => ?_
  refine E.opvg hF (r_move (hF.at 6 rfl)) (wanted_by rfl rfl (hF.at 2 rfl) rfl) rfl rfl rfl fun a hF => ?_
  refine E.callg hF (r_call Tryz.func39 en39.1 en39.2 (map2 (hF.at 1 rfl) (hF.at 0 rfl))) (gcd_any _ _ (Int.natAbs (Rat.num (q1))) (Rat.den (q1)) _ (Dg.nt hf11) (Dg.nt hh7)) (wanted_by rfl rfl (hF.at 3 rfl) rfl) rfl rfl rfl ?_
  rintro e w13 ⟨vv14, rfl, hh15, bb⟩
  refine ⟨_, rfl, ?_⟩
  intro a hF
  replace hh7 := hh7.below bb
  replace ha2 := ha2.below bb
  replace hd2 := hd2.below bb
  replace h2 := h2.below bb
  replace hn2 := hn2.below bb
  replace hf11 := hf11.below bb
  replace hh5 := hh5.below bb
  replace o3 := o3.below bb
  replace o5 := o5.below bb
  replace bel := below_to bel bb
  clear bb
  obtain ⟨ad16, n16, c16, rfl⟩ := Dg.form hh15
  refine E.callg hF (r_call Tryz.func41 en41.1 en41.2 (map1 ev_c)) (of_any 1 _ (by decide)) (wanted_by rfl rfl (hF.at 4 rfl) rfl) rfl rfl rfl ?_
  rintro e w17 ⟨vv18, rfl, hh19, bb⟩
  refine ⟨_, rfl, ?_⟩
  intro a hF
  replace hh15 := hh15.below bb
  replace hh7 := hh7.below bb
  replace ha2 := ha2.below bb
  replace hd2 := hd2.below bb
  replace h2 := h2.below bb
  replace hn2 := hn2.below bb
  replace hf11 := hf11.below bb
  replace hh5 := hh5.below bb
  replace o3 := o3.below bb
  replace o5 := o5.below bb
  replace bel := below_to bel bb
  clear bb
  obtain ⟨ad20, n20, c20, rfl⟩ := Dg.form hh19
  refine E.callg hF (r_call Tryz.func40 en40.1 en40.2 (map2 (hF.at 1 rfl) (hF.at 0 rfl))) (cmp_any _ _ (Nat.gcd (Int.natAbs (Rat.num (q1))) (Rat.den (q1))) 1 _ (Dg.nt hh15) (Dg.nt hh19)) (wanted_by rfl rfl (hF.at 5 rfl) rfl) rfl rfl rfl ?_
  intro e w21 hh
  obtain ⟨rfl, bb, hsz⟩ := quiet_below hh
  clear hh hsz
  refine ⟨_, rfl, ?_⟩
  intro a hF
  replace hh7 := hh7.below bb
  replace ha2 := ha2.below bb
  replace hd2 := hd2.below bb
  replace h2 := h2.below bb
  replace hn2 := hn2.below bb
  replace hf11 := hf11.below bb
  replace hh5 := hh5.below bb
  replace o3 := o3.below bb
  replace o5 := o5.below bb
  replace bel := below_to bel bb
  clear bb
  refine E.opvg hF (r_bin (hF.at 0 rfl) ev_c eg_scalar (bi_int (ic_neq (c := false) (ne0 (c3_eqx q1.reduced))) (by simp))) (wanted_by rfl rfl (hF.at 6 rfl) rfl) rfl rfl rfl fun a hF => ?_
  refine E.opv hF (r_pick_f (hF.at 7 rfl) (hF.at 0 rfl)) rfl rfl rfl rfl fun a hF => ?_
  refine E.nil ?_
  refine wp_cond_false (hF.at 0 rfl) ?_
  refine wp_skip ?_
  refine E.norm ?_
  refine wp_seq ?_
  refine E.drawn 9 mixed hF [25, 26, 27, 28, 29, 30, 31, 32, 7] [(fun _ v => v = .pointer (some ⟨g5, 0, none⟩)), (fun _ v => v = .bool (decide (Rat.num (q1) < 0))), (fun _ v => v = .pointer (some ⟨g5, 1, none⟩)), (fun _ v => v = .slice ad8 n8 c8), (fun w v => Dg w .i64 65536 v (Int.natAbs (Rat.num (q1)))), (fun w v => Rz w v (sg ((decide (Rat.num (q1) < 0))) (Int.natAbs (Rat.num (q1))))), (fun _ v => v = .slice ad9 n9 c9), (fun w v => Dg w .i64 65536 v (Rat.den (q1))), (fun w v => ∃ g, v = .pointer (some ⟨g, 0, none⟩) ∧ w21.heap.size ≤ g ∧ Own w g [.bool false, .slice none 0 0])] [8] (by decide +kernel) (by decide +kernel) rfl rfl rfl ⟨(Mb.eq _), (Mb.eq _), (Mb.eq _), (Mb.eq _), (fun _ _ _ h hb => h.below hb), (fun _ _ _ h hb => h.below hb), (Mb.eq _), (fun _ _ _ h hb => h.below hb), (fun _ _ _ ⟨g, e, l, o⟩ hb => ⟨g, e, l, o.below hb⟩), trivial⟩ ⟨fun _ _ ⟨g, e, _, o⟩ => ⟨g, e, o.lt⟩, trivial⟩ ⟨?_, ?_, ?_, ?_, ?_, ?_, ?_, ?_, ?_, trivial⟩ ?_
  · intro a' w' hF' hb hd
    exact if_does (wanted_free rfl) (Does.vals (r_field (hF'.at 13 rfl) (fa_Int_0 (p := 0) rfl)) ⟨rfl, Below.refl _ _, (fun h => absurd h (by decide))⟩)
  · intro a' w' hF' hb hd
    have e25 : a'.tmps.getD 25 undef = .pointer (some ⟨g5, 0, none⟩) := hd _ 25 (Array.mem_of_getElem? (i := 0) rfl) rfl rfl
    exact if_does (wanted_free rfl) (Does.vals (r_load e25 (ld_bool (v := .bool (decide (Rat.num (q1) < 0))) (o5.below hb) rfl)) ⟨rfl, Below.refl _ _, (fun h => absurd h (by decide))⟩)
  · intro a' w' hF' hb hd
    exact if_does (wanted_free rfl) (Does.vals (r_field (hF'.at 13 rfl) (fa_Int_1 (p := 1) rfl)) ⟨rfl, Below.refl _ _, (fun h => absurd h (by decide))⟩)
  · intro a' w' hF' hb hd
    have e27 : a'.tmps.getD 27 undef = .pointer (some ⟨g5, 1, none⟩) := hd _ 27 (Array.mem_of_getElem? (i := 0) rfl) rfl rfl
    exact if_does (wanted_free rfl) (Does.vals (r_load e27 (ld_Nat (v := .slice ad8 n8 c8) (o5.below hb) rfl)) ⟨rfl, Below.refl _ _, (fun h => absurd h (by decide))⟩)
  · intro a' w' hF' hb hd
    have e28 : a'.tmps.getD 28 undef = .slice ad8 n8 c8 := hd _ 28 (Array.mem_of_getElem? (i := 0) rfl) rfl rfl
    refine if_does (wanted_free rfl) (Does.calls (r_call Tryz.func43 en43.1 en43.2 (map1 e28)) (sfrom_dg _ (Int.natAbs (Rat.num (q1))) _ (hf11.below hb) (Lim.dl (l1.1) _ (by omega))) ?_)
    rintro e w'' ⟨v', rfl, h', bb⟩
    exact ⟨_, rfl, h', bb, (fun h => absurd h (by decide))⟩
  · intro a' w' hF' hb hd
    have e26 : a'.tmps.getD 26 undef = .bool (decide (Rat.num (q1) < 0)) := hd _ 26 (Array.mem_of_getElem? (i := 0) rfl) rfl rfl
    obtain ⟨v29_0, e29, h29_1⟩ : ∃ v, a'.tmps.getD 29 undef = v ∧ Dg w' .i64 65536 v (Int.natAbs (Rat.num (q1))) := ⟨_, rfl, hd _ 29 (Array.mem_of_getElem? (i := 1) rfl) rfl rfl⟩
    refine if_does (wanted_free rfl) (Does.calls (r_call Tryz.func42 en42.1 en42.2 (map2 e26 e29)) (rmake_any _ _ (Int.natAbs (Rat.num (q1))) _ h29_1) ?_)
    rintro e w'' ⟨v', rfl, h', bb⟩
    exact ⟨_, rfl, h', bb, (fun h => absurd h (by decide))⟩
  · intro a' w' hF' hb hd
    exact if_does (wanted_free rfl) (Does.vals (r_move (hF'.at 12 rfl)) ⟨rfl, Below.refl _ _, (fun h => absurd h (by decide))⟩)
  · intro a' w' hF' hb hd
    have e31 : a'.tmps.getD 31 undef = .slice ad9 n9 c9 := hd _ 31 (Array.mem_of_getElem? (i := 0) rfl) rfl rfl
    refine if_does (wanted_free rfl) (Does.calls (r_call Tryz.func43 en43.1 en43.2 (map1 e31)) (sfrom_dg _ (Rat.den (q1)) _ (hh7.below hb) (Lim.dl (l1.2) _ (by omega))) ?_)
    rintro e w'' ⟨v', rfl, h', bb⟩
    exact ⟨_, rfl, h', bb, (fun h => absurd h (by decide))⟩
  · intro a' w' hF' hb hd
    obtain ⟨g, w2, ge, hr, bb, on⟩ := own_alloc (P := Tryz.prog) (w := w') (cs := [.bool false, .slice none 0 0]) 37 ze_RInt rfl (niB (niS ni0))
    subst ge
    exact if_does (wanted_free rfl) (Does.vals (r_alloc hr) ⟨⟨_, rfl, hb.size, on⟩, bb, fun _ => rfl⟩)
  intro a w22 hF bb hall hne
  obtain ⟨vv23, e30, hh24⟩ : ∃ v, a.tmps.getD 30 undef = v ∧ Rz w22 v (sg ((decide (Rat.num (q1) < 0))) (Int.natAbs (Rat.num (q1)))) := ⟨_, rfl, hall 5 30 rfl⟩
  obtain ⟨vv25, e32, hh26⟩ : ∃ v, a.tmps.getD 32 undef = v ∧ Dg w22 .i64 65536 v (Rat.den (q1)) := ⟨_, rfl, hall 7 32 rfl⟩
  obtain ⟨g7, e7, ge7, o7⟩ : ∃ g, a.tmps.getD 7 undef = .pointer (some ⟨g, 0, none⟩) ∧ w21.heap.size ≤ g ∧ Own w22 g [.bool false, .slice none 0 0] := hall 8 7 rfl
  have ne3_7 : g3 ≠ g7 := Nat.ne_of_lt (Nat.lt_of_lt_of_le o3.lt ge7)
  replace ge7 : w.heap.size ≤ g7 := Nat.le_trans bel.size ge7
  clear hall hne
  replace ha2 := ha2.below bb
  replace hd2 := hd2.below bb
  replace h2 := h2.below bb
  replace hn2 := hn2.below bb
  replace o3 := o3.below bb
  replace bel := below_to bel bb
  clear bb
  obtain ⟨b27, ad27, n27, c27, rfl⟩ := Rz.form hh24
  replace hF := hF.add e30
  clear e30
  obtain ⟨ad28, n28, c28, rfl⟩ := Dg.form hh26
  replace hF := hF.add e32
  clear e32
  replace hF := hF.add e7
  clear e7
  obtain ⟨w29, hr, tu, on⟩ := st_RInt (vs := [.bool b27, .slice ad27 n27 c27]) o7 rfl rfl (ocB (ocS oc0)) (niB (niS ni0)) (o := 0) rfl
  have kp := tu.keep o7
  refine E.st hF (r_store (hF.at 0 rfl) (hF.at 2 rfl) (hr _ rfl)) rfl rfl fun a hF => ?_
  clear hr
  replace hh26 := hh26.keep kp
  replace ha2 := ha2.keep kp
  replace hd2 := hd2.keep kp
  replace h2 := h2.keep kp
  replace hn2 := hn2.keep kp
  replace hh24 := hh24.keep kp
  replace o3 := tu.own o3 ne3_7
  replace bel := tu.below bel ge7
  clear tu kp
  replace o7 := on
  clear on
  have hf30 := Rz.abs hh24
  refine E.opv hF (r_assign (hF.at 1 rfl)) rfl rfl rfl rfl fun a hF => ?_
  refine E.nil ?_
  refine wp_seq ?_
  refine wp_seq ?_
  refine E.drawn 12 mixed hF [33, 34, 35, 36, 37, 38, 39, 40, 41, 42, 43, 44] [(fun _ v => v = .agg #[.bool b27, .slice ad27 n27 c27]), (fun _ v => v = .pointer (some ⟨g3, 2, none⟩)), (fun _ v => v = .slice ae2 m2 d2), (fun _ v => v = .agg #[.bool false, .slice ae2 m2 d2]), (fun w v => Rz w v ((sg ((decide (Rat.num (q1) < 0))) (Int.natAbs (Rat.num (q1)))) * (((D2 : Nat) : Int)))), (fun _ v => v = .pointer (some ⟨g3, 0, none⟩)), (fun _ v => v = .agg #[.bool b2, .slice ad2 n2 c2]), (fun _ v => v = .slice ad28 n28 c28), (fun _ v => v = .agg #[.bool false, .slice ad28 n28 c28]), (fun w v => Rz w v (z2 * (((Rat.den (q1) : Nat) : Int)))), (fun _ v => v = .int .i64 (ci ((sg ((decide (Rat.num (q1) < 0))) (Int.natAbs (Rat.num (q1)))) * (((D2 : Nat) : Int))) (z2 * (((Rat.den (q1) : Nat) : Int))))), (fun _ v => v = .bool false)] [] (by decide +kernel) (by decide +kernel) rfl rfl rfl ⟨(Mb.eq _), (Mb.eq _), (Mb.eq _), (Mb.eq _), (fun _ _ _ h hb => h.below hb), (Mb.eq _), (Mb.eq _), (Mb.eq _), (Mb.eq _), (fun _ _ _ h hb => h.below hb), (Mb.eq _), (Mb.eq _), trivial⟩ trivial ⟨?_, ?_, ?_, ?_, ?_, ?_, ?_, ?_, ?_, ?_, ?_, ?_, trivial⟩ ?_
  · intro a' w' hF' hb hd
    exact if_does (wanted_free rfl) (Does.vals (r_load (hF'.at 1 rfl) (ld_RInt (vs := [.bool b27, .slice ad27 n27 c27]) (o7.below hb) rfl rfl)) ⟨rfl, Below.refl _ _, (fun h => absurd h (by decide))⟩)
  · intro a' w' hF' hb hd
    exact if_does (wanted_free rfl) (Does.vals (r_field (hF'.at 21 rfl) (fa_RRat_1 (p := 2) rfl)) ⟨rfl, Below.refl _ _, (fun h => absurd h (by decide))⟩)
  · intro a' w' hF' hb hd
    have e34 : a'.tmps.getD 34 undef = .pointer (some ⟨g3, 2, none⟩) := hd _ 34 (Array.mem_of_getElem? (i := 0) rfl) rfl rfl
    exact if_does (wanted_free rfl) (Does.vals (r_load e34 (ld_Num (v := .slice ae2 m2 d2) (o3.below hb) rfl)) ⟨rfl, Below.refl _ _, (fun h => absurd h (by decide))⟩)
  · intro a' w' hF' hb hd
    have e35 : a'.tmps.getD 35 undef = .slice ae2 m2 d2 := hd _ 35 (Array.mem_of_getElem? (i := 0) rfl) rfl rfl
    exact if_does (wanted_free rfl) (Does.vals (r_build (pair1 e35) (bd_RInt_1 _ _ _ _)) ⟨rfl, Below.refl _ _, (fun h => absurd h (by decide))⟩)
  · intro a' w' hF' hb hd
    have e33 : a'.tmps.getD 33 undef = .agg #[.bool b27, .slice ad27 n27 c27] := hd _ 33 (Array.mem_of_getElem? (i := 0) rfl) rfl rfl
    have e36 : a'.tmps.getD 36 undef = .agg #[.bool false, .slice ae2 m2 d2] := hd _ 36 (Array.mem_of_getElem? (i := 1) rfl) rfl rfl
    refine if_does (wanted_free rfl) (Does.calls (r_call Tryz.func45 en45.1 en45.2 (map2 e33 e36)) (rmul_any _ _ _ _ k1 k2 _ (hh24.below hb) (Rz.nat (hd2.below hb)) (sg_lim _ (l1.1)) (lim_cast lD2) (by omega) (by omega)) ?_)
    rintro e w'' ⟨v', rfl, h', bb⟩
    exact ⟨_, rfl, h', bb, (fun h => absurd h (by decide))⟩
  · intro a' w' hF' hb hd
    exact if_does (wanted_free rfl) (Does.vals (r_field (hF'.at 21 rfl) (fa_RRat_0 (p := 0) rfl)) ⟨rfl, Below.refl _ _, (fun h => absurd h (by decide))⟩)
  · intro a' w' hF' hb hd
    have e38 : a'.tmps.getD 38 undef = .pointer (some ⟨g3, 0, none⟩) := hd _ 38 (Array.mem_of_getElem? (i := 0) rfl) rfl rfl
    exact if_does (wanted_free rfl) (Does.vals (r_load e38 (ld_RInt (vs := [.bool b2, .slice ad2 n2 c2]) (o3.below hb) rfl rfl)) ⟨rfl, Below.refl _ _, (fun h => absurd h (by decide))⟩)
  · intro a' w' hF' hb hd
    exact if_does (wanted_free rfl) (Does.vals (r_move (hF'.at 0 rfl)) ⟨rfl, Below.refl _ _, (fun h => absurd h (by decide))⟩)
  · intro a' w' hF' hb hd
    have e40 : a'.tmps.getD 40 undef = .slice ad28 n28 c28 := hd _ 40 (Array.mem_of_getElem? (i := 0) rfl) rfl rfl
    exact if_does (wanted_free rfl) (Does.vals (r_build (pair1 e40) (bd_RInt_1 _ _ _ _)) ⟨rfl, Below.refl _ _, (fun h => absurd h (by decide))⟩)
  · intro a' w' hF' hb hd
    have e39 : a'.tmps.getD 39 undef = .agg #[.bool b2, .slice ad2 n2 c2] := hd _ 39 (Array.mem_of_getElem? (i := 0) rfl) rfl rfl
    have e41 : a'.tmps.getD 41 undef = .agg #[.bool false, .slice ad28 n28 c28] := hd _ 41 (Array.mem_of_getElem? (i := 1) rfl) rfl rfl
    refine if_does (wanted_free rfl) (Does.calls (r_call Tryz.func45 en45.1 en45.2 (map2 e39 e41)) (rmul_any _ _ _ _ k2 k1 _ (hn2.below hb) (Rz.nat (hh26.below hb)) lz2 (lim_cast (l1.2)) (by omega) (by omega)) ?_)
    rintro e w'' ⟨v', rfl, h', bb⟩
    exact ⟨_, rfl, h', bb, (fun h => absurd h (by decide))⟩
  · intro a' w' hF' hb hd
    obtain ⟨v37_0, e37, h37_1⟩ : ∃ v, a'.tmps.getD 37 undef = v ∧ Rz w' v ((sg ((decide (Rat.num (q1) < 0))) (Int.natAbs (Rat.num (q1)))) * (((D2 : Nat) : Int))) := ⟨_, rfl, hd _ 37 (Array.mem_of_getElem? (i := 0) rfl) rfl rfl⟩
    obtain ⟨v42_0, e42, h42_1⟩ : ∃ v, a'.tmps.getD 42 undef = v ∧ Rz w' v (z2 * (((Rat.den (q1) : Nat) : Int))) := ⟨_, rfl, hd _ 42 (Array.mem_of_getElem? (i := 1) rfl) rfl rfl⟩
    refine if_does (wanted_free rfl) (Does.calls (r_call Tryz.func44 en44.1 en44.2 (map2 e37 e42)) (rcmp_any3 _ _ _ _ (k1 + k2) (k2 + k1) _ h37_1 h42_1 (limz_mul (sg_lim _ (l1.1)) (lim_cast lD2)) (limz_mul lz2 (lim_cast (l1.2))) (by omega) (by omega)) ?_)
    rintro e w'' ⟨rfl, bb⟩
    exact ⟨_, rfl, rfl, bb, (fun h => absurd h (by decide))⟩
  · intro a' w' hF' hb hd
    have e43 : a'.tmps.getD 43 undef = .int .i64 (ci ((sg ((decide (Rat.num (q1) < 0))) (Int.natAbs (Rat.num (q1)))) * (((D2 : Nat) : Int))) (z2 * (((Rat.den (q1) : Nat) : Int)))) := hd _ 43 (Array.mem_of_getElem? (i := 0) rfl) rfl rfl
    exact if_does (wanted_free rfl) (Does.vals (r_bin e43 ev_c eg_scalar (bi_int (ic_neq (c := false) (ne0 (ci_same (by rw [sg_dec]; exact HX.out)))) (by simp))) ⟨rfl, Below.refl _ _, (fun h => absurd h (by decide))⟩)
  intro a w31 hF bb hall hne
  have e44 : a.tmps.getD 44 undef = .bool false := hall 11 44 rfl
  clear hall hne
  replace bel := below_to bel bb
  clear bb
  replace hF := hF.add e44
  clear e44
  refine E.nil ?_
  refine wp_cond_false (hF.at 0 rfl) ?_
  refine wp_skip ?_
  refine E.norm ?_
  refine wp_seq ?_
  refine E.seq ?_
  refine E.opset (L' := [(4, .int .i64 0), (44, .bool false), (8, .slice ad28 n28 c28), (7, .pointer (some ⟨g7, 0, none⟩)), (32, .slice ad28 n28 c28), (30, .agg #[.bool b27, .slice ad27 n27 c27]), (24, .bool false), (23, .bool false), (22, .int .i64 (c3 (Nat.gcd (Int.natAbs (Rat.num (q1))) (Rat.den (q1))) (1))), (21, .slice ad20 n20 c20), (20, .slice ad16 n16 c16), (19, .slice ad9 n9 c9), (18, .slice ad8 n8 c8), (17, .pointer (some ⟨g5, 1, none⟩)), (16, .bool false), (15, .bool false), (14, .int .i64 (dl 2 (Rat.den (q1)) : Nat)), (13, .slice ad9 n9 c9), (6, .slice ad9 n9 c9), (5, .pointer (some ⟨g5, 0, none⟩)), (12, .slice ad9 n9 c9), (10, .agg #[.bool (decide (Rat.num (q1) < 0)), .slice ad8 n8 c8]), (3, .pointer (some ⟨g3, 0, none⟩)), (2, .pointer (some ⟨g2, 0, none⟩)), (0, .agg #[.bool b1, .slice ad1 n1 c1, .slice ae1 m1 d1]), (1, .agg #[.bool b2, .slice ad2 n2 c2, .slice ae2 m2 d2])]) hF (r_assign ev_c) rfl rfl rfl rfl fun a hF => ?_
  refine E.nil ?_
  refine wp_ret ?_
  refine bodyPost_ret (res_tmp Tryz.results9 (hF.at 0 rfl)) hF.dfr ?_
  exact ⟨rfl, bel⟩

end Go.Proofs.YtmpdbkdijfpbbaaGreat

/- The walk of RatMakes. -/
namespace Go.Proofs.YtmpdbkdijfpbbaaGreat
open Go.RowKit
set_option maxRecDepth 100000
set_option linter.unusedVariables false

theorem rSame_true (v1 v2 : Value) (q1 q2 : Rat) (w : World) (h1 : Rq w v1 q1) (h2 : Rq w v2 q2) (h : q1 = q2) : Calls Tryz.prog 15 #[v1, v2] w (BoolPost w true) := by
  have := rSame_any v1 v2 q1 q2 w h1 h2
  rw [decide_eq_true h] at this
  exact this
theorem rSame_false (v1 v2 : Value) (q1 q2 : Rat) (w : World) (h1 : Rq w v1 q1) (h2 : Rq w v2 q2) (h : q1 ≠ q2) : Calls Tryz.prog 15 #[v1, v2] w (BoolPost w false) := by
  have := rSame_any v1 v2 q1 q2 w h1 h2
  rw [decide_eq_false h] at this
  exact this
theorem bits_pos (q : Rat) : (0 : Int) < (dl 2 q.den : Nat) := by have := dl_pos (by decide : 2 ≤ 2) (Rat.den_pos q); omega
end Go.Proofs.YtmpdbkdijfpbbaaGreat

/- How two rational numbers stand. -/
namespace Go.Proofs.YtmpdbkdijfpbbaaGreat
open Go.RowKit
set_option maxRecDepth 100000
set_option linter.unusedVariables false

theorem qc_def (a b : Rat) : qc a b = if a < b then -1 else if b < a then 1 else 0 := by
  unfold qc ci
  simp only [← Rat.lt_iff]
theorem qc_bd (a b : Rat) : -1 ≤ qc a b ∧ qc a b ≤ 1 := by rw [qc_def]; split <;> (try split) <;> omega
theorem sz_bd (z : Int) : -1 ≤ sz z ∧ sz z ≤ 1 := by unfold sz; split <;> (try split) <;> omega
theorem sz_def (q : Rat) : sz q.num = if q < 0 then -1 else if 0 < q then 1 else 0 := by
  have h1 : q < 0 ↔ q.num < 0 := by rw [Rat.lt_iff]; simp
  have h2 : 0 < q ↔ 0 < q.num := by rw [Rat.lt_iff]; simp
  simp only [h1, h2]
  unfold sz
  split
  · rename_i e; rw [e]; simp
  · split
    · rfl
    · rw [if_pos (by omega)]
theorem small_mul {a b : Int} (ha : -1 ≤ a ∧ a ≤ 1) (hb : -1 ≤ b ∧ b ≤ 1) : -9223372036854775808 ≤ a * b ∧ a * b ≤ 9223372036854775807 := by
  obtain ⟨a1, a2⟩ := ha
  obtain ⟨b1, b2⟩ := hb
  have h : a = -1 ∨ a = 0 ∨ a = 1 := by omega
  rcases h with rfl | rfl | rfl <;> constructor <;> omega
theorem qc_symm (a b : Rat) : qc b a = -qc a b := by
  rw [qc_def, qc_def]; split <;> split <;> (try split) <;> grind
theorem qc_add (a b c : Rat) : qc (a + c) (b + c) = qc a b := by
  rw [qc_def, qc_def]; simp only [Rat.add_lt_add_right]
theorem qc_sub (a b : Rat) : sz (a - b).num = qc a b := by
  rw [sz_def, qc_def]
  have h1 : a - b < 0 ↔ a < b := by grind
  have h2 : 0 < a - b ↔ b < a := by grind
  simp only [h1, h2]
theorem qc_mul (a b c : Rat) : qc (a * c) (b * c) = qc a b * sz c.num := by
  rw [sz_def]
  by_cases h1 : c < 0
  · rw [if_pos h1, qc_def, qc_def]
    have e1 : a * c < b * c ↔ b < a := by
      have := Rat.mul_lt_mul_right (a := b) (b := a) (c := -c) (by grind)
      rw [Rat.mul_neg, Rat.mul_neg, Rat.neg_lt_neg_iff] at this
      exact this
    have e2 : b * c < a * c ↔ a < b := by
      have := Rat.mul_lt_mul_right (a := a) (b := b) (c := -c) (by grind)
      rw [Rat.mul_neg, Rat.mul_neg, Rat.neg_lt_neg_iff] at this
      exact this
    simp only [e1, e2]
    split <;> split <;> (try split) <;> grind
  · rw [if_neg h1]
    by_cases h2 : 0 < c
    · rw [if_pos h2, qc_def, qc_def]
      simp only [Rat.mul_lt_mul_right h2, Int.mul_one]
    · rw [if_neg h2]
      have : c = 0 := by grind
      subst this
      rw [Rat.mul_zero, Rat.mul_zero, qc_def, if_neg Rat.lt_irrefl, if_neg Rat.lt_irrefl]
      omega
theorem qc_trans {a b c : Rat} (h1 : qc a b ≤ 0) (h2 : qc b c ≤ 0) : qc a c ≤ 0 := by
  rw [qc_def] at *
  grind
theorem neg_rng {a : Int} (h : -1 ≤ a ∧ a ≤ 1) : -9223372036854775808 ≤ -a ∧ -a ≤ 9223372036854775807 := ⟨by omega, by omega⟩
end Go.Proofs.YtmpdbkdijfpbbaaGreat
