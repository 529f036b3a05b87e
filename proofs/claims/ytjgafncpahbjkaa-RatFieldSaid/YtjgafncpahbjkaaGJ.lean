/- LwA LwB LwQ -/
import Derived.Test.YtjgafncpahbjkaaGI

/- Laws of layer 5: Own, Told, Is, awake. -/
namespace Go.Proofs.Ytjgafncpahbjkaa
open Go.RowKit
set_option maxRecDepth 100000
set_option linter.unusedVariables false

theorem cross_of {q : Rat} {z : Int} {D : Nat} (h : q = mkRat z D) (hD : 0 < D) : q.num * (D : Int) = z * (q.den : Int) := by
  have h2 : mkRat q.num q.den = mkRat z D := by rw [Rat.mkRat_self]; exact h
  exact (Rat.mkRat_eq_iff q.den_nz (by omega)).1 h2
theorem own5_lim (a b : Bool) {x y : List Nat} (h1 : okb B32 x) (h2 : okb B32 y) (m : Nat) (hm : 1 ≤ m) : RLim ((rawZ a x m : Rat) / (rawZ b y m : Rat)) m :=
  RLim.up (rlim_mk2 (rawZ_limo a h1 m) (rawZ_limo b h2 m)) m (by omega)
set_option maxHeartbeats 1000000 in
theorem Own5_any (nega1 : Bool) (aa1 : Option Addr) (na1 ca1 : Nat) (xa1 : List Nat) (negb1 : Bool) (ab1 : Option Addr) (nb1 cb1 : Nat) (xb1 : List Nat) (m : Nat) (w : World) (ia1 : InX w aa1 na1 ca1 xa1) (ib1 : InX w ab1 nb1 cb1 xb1) (hm : m ≤ 1000) :
    Calls Try.prog 46 #[.agg #[.bool nega1, .slice aa1 na1 ca1, .bool negb1, .slice ab1 nb1 cb1], .int .i64 (m : Nat)] w (RqPost w ((rawZ nega1 xa1 m : Rat) / (rawZ negb1 xb1 m : Rat))) := by
  have oka1 := ia1.ok
  have okb1 := ib1.ok
  have bel : Below w.heap.size w w := Below.refl _ _
  refine E.enter (nt := 14) (L := [(0, .agg #[.bool nega1, .slice aa1 na1 ca1, .bool negb1, .slice ab1 nb1 cb1]), (1, .int .i64 ((m : Nat) : Int))]) Try.func46 rfl rfl rfl (args_cons (i := 0) rfl (args_cons (i := 1) rfl args_nil)) ?_
  intro a hF
  refine wp_seq ?_
  refine E.seq ?_
  obtain ⟨g2, w1, ge2, hr, bb, o2⟩ := own_box (P := Try.prog) (w := w) (cs := [.bool nega1, .slice aa1 na1 ca1, .bool negb1, .slice ab1 nb1 cb1]) (v := .agg #[.bool nega1, .slice aa1 na1 ca1, .bool negb1, .slice ab1 nb1 cb1]) 74 rfl (niB (niS (niB (niS ni0))))
  replace ge2 : w.heap.size ≤ g2 := by rw [← ge2]; exact bel.size
  refine E.opv hF (r_box (hF.at 0 rfl) hr) rfl rfl rfl rfl fun a hF => ?_
  clear hr
  replace ia1 := ia1.below bb
  replace ib1 := ib1.below bb
  replace bel := below_to bel bb
  clear bb
  obtain ⟨g4, w2, ge4, hr, bb, o4⟩ := own_alloc (P := Try.prog) (w := w1) (cs := [.bool false, .slice none 0 0, .slice none 0 0]) 76 ze_Rat rfl (niB (niS (niS ni0)))
  have ne2_4 : g2 ≠ g4 := by rw [← ge4]; exact o2.ne_new
  replace ge4 : w.heap.size ≤ g4 := by rw [← ge4]; exact bel.size
  refine E.opv hF (r_alloc hr) rfl rfl rfl rfl fun a hF => ?_
  clear hr
  replace ia1 := ia1.below bb
  replace ib1 := ib1.below bb
  replace o2 := o2.below bb
  replace bel := below_to bel bb
  clear bb
  refine E.nil ?_
  refine wp_seq ?_
  refine E.drawn 9 mixed hF [5, 6, 7, 8, 9, 10, 11, 12, 13] [(fun _ v => v = .pointer (some ⟨g2, 0, none⟩)), (fun _ v => v = .agg #[.bool nega1, .slice aa1 na1 ca1]), (fun _ v => v = .int .i64 ((m : Nat) : Int)), (fun w v => Wz w v (rawZ nega1 xa1 m)), (fun _ v => v = .pointer (some ⟨g2, 2, none⟩)), (fun _ v => v = .agg #[.bool negb1, .slice ab1 nb1 cb1]), (fun _ v => v = .int .i64 ((m : Nat) : Int)), (fun w v => Wz w v (rawZ negb1 xb1 m)), (fun w v => Rq w v ((rawZ nega1 xa1 m : Rat) / (rawZ negb1 xb1 m : Rat)))] [] (by decide +kernel) (by decide +kernel) rfl rfl rfl ⟨(Mb.eq _), (Mb.eq _), (Mb.eq _), (fun _ _ _ h hb => h.below hb), (Mb.eq _), (Mb.eq _), (Mb.eq _), (fun _ _ _ h hb => h.below hb), (fun _ _ _ h hb => h.below hb), trivial⟩ trivial ⟨?_, ?_, ?_, ?_, ?_, ?_, ?_, ?_, ?_, trivial⟩ ?_
  · intro a' w' hF' hb hd
    exact if_does (wanted_free rfl) (Does.vals (r_field (hF'.at 1 rfl) (fa_Raw5_0 (p := 0) rfl)) ⟨rfl, Below.refl _ _, (fun h => absurd h (by decide))⟩)
  · intro a' w' hF' hb hd
    have e5 : a'.tmps.getD 5 undef = .pointer (some ⟨g2, 0, none⟩) := hd _ 5 (Array.mem_of_getElem? (i := 0) rfl) rfl rfl
    exact if_does (wanted_free rfl) (Does.vals (r_load e5 (ld_Raw (vs := [.bool nega1, .slice aa1 na1 ca1]) (o2.below hb) rfl rfl)) ⟨rfl, Below.refl _ _, (fun h => absurd h (by decide))⟩)
  · intro a' w' hF' hb hd
    exact if_does (wanted_free rfl) (Does.vals (r_move (hF'.at 3 rfl)) ⟨rfl, Below.refl _ _, (fun h => absurd h (by decide))⟩)
  · intro a' w' hF' hb hd
    have e6 : a'.tmps.getD 6 undef = .agg #[.bool nega1, .slice aa1 na1 ca1] := hd _ 6 (Array.mem_of_getElem? (i := 0) rfl) rfl rfl
    have e7 : a'.tmps.getD 7 undef = .int .i64 ((m : Nat) : Int) := hd _ 7 (Array.mem_of_getElem? (i := 1) rfl) rfl rfl
    refine if_does (wanted_free rfl) (Does.calls (r_call Try.func24 en24.1 en24.2 (map2 e6 e7)) (own_any nega1 aa1 na1 ca1 m xa1 _ (ia1.below hb) (by omega)) ?_)
    rintro e w'' ⟨v', rfl, h', bb⟩
    exact ⟨_, rfl, h', bb, (fun h => absurd h (by decide))⟩
  · intro a' w' hF' hb hd
    exact if_does (wanted_free rfl) (Does.vals (r_field (hF'.at 1 rfl) (fa_Raw5_1 (p := 2) rfl)) ⟨rfl, Below.refl _ _, (fun h => absurd h (by decide))⟩)
  · intro a' w' hF' hb hd
    have e9 : a'.tmps.getD 9 undef = .pointer (some ⟨g2, 2, none⟩) := hd _ 9 (Array.mem_of_getElem? (i := 0) rfl) rfl rfl
    exact if_does (wanted_free rfl) (Does.vals (r_load e9 (ld_Raw (vs := [.bool negb1, .slice ab1 nb1 cb1]) (o2.below hb) rfl rfl)) ⟨rfl, Below.refl _ _, (fun h => absurd h (by decide))⟩)
  · intro a' w' hF' hb hd
    exact if_does (wanted_free rfl) (Does.vals (r_move (hF'.at 3 rfl)) ⟨rfl, Below.refl _ _, (fun h => absurd h (by decide))⟩)
  · intro a' w' hF' hb hd
    have e10 : a'.tmps.getD 10 undef = .agg #[.bool negb1, .slice ab1 nb1 cb1] := hd _ 10 (Array.mem_of_getElem? (i := 0) rfl) rfl rfl
    have e11 : a'.tmps.getD 11 undef = .int .i64 ((m : Nat) : Int) := hd _ 11 (Array.mem_of_getElem? (i := 1) rfl) rfl rfl
    refine if_does (wanted_free rfl) (Does.calls (r_call Try.func24 en24.1 en24.2 (map2 e10 e11)) (own_any negb1 ab1 nb1 cb1 m xb1 _ (ib1.below hb) (by omega)) ?_)
    rintro e w'' ⟨v', rfl, h', bb⟩
    exact ⟨_, rfl, h', bb, (fun h => absurd h (by decide))⟩
  · intro a' w' hF' hb hd
    obtain ⟨v8_0, e8, h8_1⟩ : ∃ v, a'.tmps.getD 8 undef = v ∧ Wz w' v (rawZ nega1 xa1 m) := ⟨_, rfl, hd _ 8 (Array.mem_of_getElem? (i := 0) rfl) rfl rfl⟩
    obtain ⟨v12_0, e12, h12_1⟩ : ∃ v, a'.tmps.getD 12 undef = v ∧ Wz w' v (rawZ negb1 xb1 m) := ⟨_, rfl, hd _ 12 (Array.mem_of_getElem? (i := 1) rfl) rfl rfl⟩
    refine if_does (wanted_free rfl) (Does.calls (r_call Try.func111 en111.1 en111.2 (map2 e8 e12)) (rmk_any _ _ (rawZ nega1 xa1 m) (rawZ negb1 xb1 m) _ h8_1 h12_1) ?_)
    rintro e w'' ⟨v', rfl, h', bb⟩
    exact ⟨_, rfl, h', bb, (fun h => absurd h (by decide))⟩
  intro a w3 hF bb hall hne
  obtain ⟨vv4, e13, hh5⟩ : ∃ v, a.tmps.getD 13 undef = v ∧ Rq w3 v ((rawZ nega1 xa1 m : Rat) / (rawZ negb1 xb1 m : Rat)) := ⟨_, rfl, hall 8 13 rfl⟩
  clear hall hne
  replace o4 := o4.below bb
  replace bel := below_to bel bb
  clear bb
  obtain ⟨b6, ad6, n6, c6, ae6, m6, d6, rfl, hn6, hd6⟩ := Rq.shape hh5
  have hf7 := Wc.abs hn6
  replace hF := hF.add e13
  clear e13
  obtain ⟨w8, hr, tu, on⟩ := st_Rat (vs := [.bool b6, .slice ad6 n6 c6, .slice ae6 m6 d6]) o4 rfl rfl (ocB (ocS (ocS oc0))) (niB (niS (niS ni0))) (o := 0) rfl
  have kp := tu.keep o4
  refine E.st hF (r_store (hF.at 1 rfl) (hF.at 0 rfl) (hr _ rfl)) rfl rfl fun a hF => ?_
  clear hr
  replace hh5 := hh5.keep kp
  replace hn6 := hn6.keep kp
  replace hf7 := hf7.keep kp
  replace hd6 := hd6.keep kp
  replace bel := tu.below bel ge4
  clear tu kp
  replace o4 := on
  clear on
  refine E.nil ?_
  refine wp_ret ?_
  refine bodyPost_ret (res_cell Try.results46 (hF.at 1 rfl) (ld_Rat (vs := [.bool b6, .slice ad6 n6 c6, .slice ae6 m6 d6]) o4 rfl rfl)) hF.dfr ?_
  exact ⟨_, rfl, hh5, bel⟩

set_option maxHeartbeats 1000000 in
theorem Told5_any (nega1 : Bool) (aa1 : Option Addr) (na1 ca1 : Nat) (xa1 : List Nat) (negb1 : Bool) (ab1 : Option Addr) (nb1 cb1 : Nat) (xb1 : List Nat) (m : Nat) (w : World) (ia1 : InX w aa1 na1 ca1 xa1) (ib1 : InX w ab1 nb1 cb1 xb1) (hm : m ≤ 1000) (hm1 : 1 ≤ m) :
    Calls Try.prog 47 #[.agg #[.bool nega1, .slice aa1 na1 ca1, .bool negb1, .slice ab1 nb1 cb1], .int .i64 (m : Nat)] w (RrPost w ((rawZ nega1 xa1 m : Rat) / (rawZ negb1 xb1 m : Rat)) m) := by
  have oka1 := ia1.ok
  have okb1 := ib1.ok
  have bel : Below w.heap.size w w := Below.refl _ _
  refine E.enter (nt := 14) (L := [(0, .agg #[.bool nega1, .slice aa1 na1 ca1, .bool negb1, .slice ab1 nb1 cb1]), (1, .int .i64 ((m : Nat) : Int))]) Try.func47 rfl rfl rfl (args_cons (i := 0) rfl (args_cons (i := 1) rfl args_nil)) ?_
  intro a hF
  refine wp_seq ?_
  refine E.seq ?_
  obtain ⟨g2, w1, ge2, hr, bb, o2⟩ := own_box (P := Try.prog) (w := w) (cs := [.bool nega1, .slice aa1 na1 ca1, .bool negb1, .slice ab1 nb1 cb1]) (v := .agg #[.bool nega1, .slice aa1 na1 ca1, .bool negb1, .slice ab1 nb1 cb1]) 74 rfl (niB (niS (niB (niS ni0))))
  replace ge2 : w.heap.size ≤ g2 := by rw [← ge2]; exact bel.size
  refine E.opv hF (r_box (hF.at 0 rfl) hr) rfl rfl rfl rfl fun a hF => ?_
  clear hr
  replace ia1 := ia1.below bb
  replace ib1 := ib1.below bb
  replace bel := below_to bel bb
  clear bb
  obtain ⟨g4, w2, ge4, hr, bb, o4⟩ := own_alloc (P := Try.prog) (w := w1) (cs := [.bool false, .slice none 0 0, .slice none 0 0]) 79 ze_RRat rfl (niB (niS (niS ni0)))
  have ne2_4 : g2 ≠ g4 := by rw [← ge4]; exact o2.ne_new
  replace ge4 : w.heap.size ≤ g4 := by rw [← ge4]; exact bel.size
  refine E.opv hF (r_alloc hr) rfl rfl rfl rfl fun a hF => ?_
  clear hr
  replace ia1 := ia1.below bb
  replace ib1 := ib1.below bb
  replace o2 := o2.below bb
  replace bel := below_to bel bb
  clear bb
  refine E.nil ?_
  refine wp_seq ?_
  refine E.drawn 9 mixed hF [5, 6, 7, 8, 9, 10, 11, 12, 13] [(fun _ v => v = .pointer (some ⟨g2, 0, none⟩)), (fun _ v => v = .agg #[.bool nega1, .slice aa1 na1 ca1]), (fun _ v => v = .int .i64 ((m : Nat) : Int)), (fun w v => Rz w v (rawZ nega1 xa1 m)), (fun _ v => v = .pointer (some ⟨g2, 2, none⟩)), (fun _ v => v = .agg #[.bool negb1, .slice ab1 nb1 cb1]), (fun _ v => v = .int .i64 ((m : Nat) : Int)), (fun w v => Rz w v (rawZ negb1 xb1 m)), (fun w v => Rr w v (((rawZ nega1 xa1 m : Int) : Rat) / ((rawZ negb1 xb1 m : Int) : Rat)) (m))] [] (by decide +kernel) (by decide +kernel) rfl rfl rfl ⟨(Mb.eq _), (Mb.eq _), (Mb.eq _), (fun _ _ _ h hb => h.below hb), (Mb.eq _), (Mb.eq _), (Mb.eq _), (fun _ _ _ h hb => h.below hb), (fun _ _ _ h hb => h.below hb), trivial⟩ trivial ⟨?_, ?_, ?_, ?_, ?_, ?_, ?_, ?_, ?_, trivial⟩ ?_
  · intro a' w' hF' hb hd
    exact if_does (wanted_free rfl) (Does.vals (r_field (hF'.at 1 rfl) (fa_Raw5_0 (p := 0) rfl)) ⟨rfl, Below.refl _ _, (fun h => absurd h (by decide))⟩)
  · intro a' w' hF' hb hd
    have e5 : a'.tmps.getD 5 undef = .pointer (some ⟨g2, 0, none⟩) := hd _ 5 (Array.mem_of_getElem? (i := 0) rfl) rfl rfl
    exact if_does (wanted_free rfl) (Does.vals (r_load e5 (ld_Raw (vs := [.bool nega1, .slice aa1 na1 ca1]) (o2.below hb) rfl rfl)) ⟨rfl, Below.refl _ _, (fun h => absurd h (by decide))⟩)
  · intro a' w' hF' hb hd
    exact if_does (wanted_free rfl) (Does.vals (r_move (hF'.at 3 rfl)) ⟨rfl, Below.refl _ _, (fun h => absurd h (by decide))⟩)
  · intro a' w' hF' hb hd
    have e6 : a'.tmps.getD 6 undef = .agg #[.bool nega1, .slice aa1 na1 ca1] := hd _ 6 (Array.mem_of_getElem? (i := 0) rfl) rfl rfl
    have e7 : a'.tmps.getD 7 undef = .int .i64 ((m : Nat) : Int) := hd _ 7 (Array.mem_of_getElem? (i := 1) rfl) rfl rfl
    refine if_does (wanted_free rfl) (Does.calls (r_call Try.func27 en27.1 en27.2 (map2 e6 e7)) (told_any nega1 aa1 na1 ca1 m xa1 _ (ia1.below hb) (by omega)) ?_)
    rintro e w'' ⟨v', rfl, h', bb⟩
    exact ⟨_, rfl, h', bb, (fun h => absurd h (by decide))⟩
  · intro a' w' hF' hb hd
    exact if_does (wanted_free rfl) (Does.vals (r_field (hF'.at 1 rfl) (fa_Raw5_1 (p := 2) rfl)) ⟨rfl, Below.refl _ _, (fun h => absurd h (by decide))⟩)
  · intro a' w' hF' hb hd
    have e9 : a'.tmps.getD 9 undef = .pointer (some ⟨g2, 2, none⟩) := hd _ 9 (Array.mem_of_getElem? (i := 0) rfl) rfl rfl
    exact if_does (wanted_free rfl) (Does.vals (r_load e9 (ld_Raw (vs := [.bool negb1, .slice ab1 nb1 cb1]) (o2.below hb) rfl rfl)) ⟨rfl, Below.refl _ _, (fun h => absurd h (by decide))⟩)
  · intro a' w' hF' hb hd
    exact if_does (wanted_free rfl) (Does.vals (r_move (hF'.at 3 rfl)) ⟨rfl, Below.refl _ _, (fun h => absurd h (by decide))⟩)
  · intro a' w' hF' hb hd
    have e10 : a'.tmps.getD 10 undef = .agg #[.bool negb1, .slice ab1 nb1 cb1] := hd _ 10 (Array.mem_of_getElem? (i := 0) rfl) rfl rfl
    have e11 : a'.tmps.getD 11 undef = .int .i64 ((m : Nat) : Int) := hd _ 11 (Array.mem_of_getElem? (i := 1) rfl) rfl rfl
    refine if_does (wanted_free rfl) (Does.calls (r_call Try.func27 en27.1 en27.2 (map2 e10 e11)) (told_any negb1 ab1 nb1 cb1 m xb1 _ (ib1.below hb) (by omega)) ?_)
    rintro e w'' ⟨v', rfl, h', bb⟩
    exact ⟨_, rfl, h', bb, (fun h => absurd h (by decide))⟩
  · intro a' w' hF' hb hd
    obtain ⟨v8_0, e8, h8_1⟩ : ∃ v, a'.tmps.getD 8 undef = v ∧ Rz w' v (rawZ nega1 xa1 m) := ⟨_, rfl, hd _ 8 (Array.mem_of_getElem? (i := 0) rfl) rfl rfl⟩
    obtain ⟨v12_0, e12, h12_1⟩ : ∃ v, a'.tmps.getD 12 undef = v ∧ Rz w' v (rawZ negb1 xb1 m) := ⟨_, rfl, hd _ 12 (Array.mem_of_getElem? (i := 1) rfl) rfl rfl⟩
    refine if_does (wanted_free rfl) (Does.calls (r_call Try.func112 en112.1 en112.2 (map2 e8 e12)) (dmk_any _ _ (rawZ nega1 xa1 m) (rawZ negb1 xb1 m) m _ h8_1 h12_1 (Lim.up (rawZ_limo nega1 oka1 m) _ (by omega)) (Lim.up (rawZ_limo negb1 okb1 m) _ (by omega)) (by omega)) ?_)
    rintro e w'' ⟨v', rfl, h', bb⟩
    exact ⟨_, rfl, h', bb, (fun h => absurd h (by decide))⟩
  intro a w3 hF bb hall hne
  obtain ⟨vv4, e13, hh5⟩ : ∃ v, a.tmps.getD 13 undef = v ∧ Rr w3 v (((rawZ nega1 xa1 m : Int) : Rat) / ((rawZ negb1 xb1 m : Int) : Rat)) (m) := ⟨_, rfl, hall 8 13 rfl⟩
  clear hall hne
  replace o4 := o4.below bb
  replace bel := below_to bel bb
  clear bb
  obtain ⟨b6, ad6, n6, c6, ae6, m6, d6, z6, D6, rfl, hn6, hd6, hD6, hq6, lz6, lD6⟩ := Rr.shape hh5
  have ha6 := hn6.abs
  replace hF := hF.add e13
  clear e13
  obtain ⟨w7, hr, tu, on⟩ := st_RRat (vs := [.bool b6, .slice ad6 n6 c6, .slice ae6 m6 d6]) o4 rfl rfl (ocB (ocS (ocS oc0))) (niB (niS (niS ni0))) (o := 0) rfl
  have kp := tu.keep o4
  refine E.st hF (r_store (hF.at 1 rfl) (hF.at 0 rfl) (hr _ rfl)) rfl rfl fun a hF => ?_
  clear hr
  replace hh5 := hh5.keep kp
  replace hn6 := hn6.keep kp
  replace ha6 := ha6.keep kp
  replace hd6 := hd6.keep kp
  replace bel := tu.below bel ge4
  clear tu kp
  replace o4 := on
  clear on
  refine E.nil ?_
  refine wp_ret ?_
  refine bodyPost_ret (res_cell Try.results47 (hF.at 1 rfl) (ld_RRat (vs := [.bool b6, .slice ad6 n6 c6, .slice ae6 m6 d6]) o4 rfl rfl)) hF.dfr ?_
  exact ⟨_, rfl, hh5, bel⟩

set_option maxHeartbeats 1000000 in
theorem Is5_any (v1 v2 : Value) (q1 q2 : Rat) (k1 k2 : Nat) (w : World) (h1 : Rq w v1 q1) (h2 : Rr w v2 q2 k2) (l1 : RLim q1 k1) (e : q1 = q2) (hk1 : k1 ≤ 20000) (hk2 : k2 ≤ 20000) :
    Calls Try.prog 51 #[v1, v2] w (ZeroPost w) := by
  obtain ⟨b1, ad1, n1, c1, ae1, m1, d1, rfl, hn1, hd1⟩ := h1.shape
  have h1 : Rq w (.agg #[.bool b1, .slice ad1 n1 c1, .slice ae1 m1 d1]) q1 := ⟨_, _, _, _, _, _, _, rfl, hn1, hd1⟩
  have ha1 := hn1.abs
  have hb1 := hn1.neg
  replace h2 : Rr w v2 q1 k2 := h2.cast e.symm
  clear e q2
  obtain ⟨b2, ad2, n2, c2, ae2, m2, d2, z2, D2, rfl, hn2, hd2, hD2, hq2, lz2, lD2⟩ := h2.shape
  have h2 : Rr w (.agg #[.bool b2, .slice ad2 n2 c2, .slice ae2 m2 d2]) q1 k2 := ⟨_, _, _, _, _, _, _, _, _, rfl, hn2, hd2, hD2, hq2, lz2, lD2⟩
  have ha2 := hn2.abs
  have hb2 := hn2.neg
  replace hq2 := Lib.hid hq2
  have HX := Lib.hid (cross_of hq2.out hD2)
  have hdl := dl_pos (by decide : 2 ≤ 2) (Rat.den_pos q1)
  have bel : Below w.heap.size w w := Below.refl _ _
  refine E.enter (nt := 45) (L := [(0, .agg #[.bool b1, .slice ad1 n1 c1, .slice ae1 m1 d1]), (1, .agg #[.bool b2, .slice ad2 n2 c2, .slice ae2 m2 d2])]) Try.func51 rfl rfl rfl (args_cons (i := 0) rfl (args_cons (i := 1) rfl args_nil)) ?_
  intro a hF
  refine wp_seq ?_
  refine E.seq ?_
  obtain ⟨g2, w1, ge2, hr, bb, o2⟩ := own_box (P := Try.prog) (w := w) (cs := [.bool b1, .slice ad1 n1 c1, .slice ae1 m1 d1]) (v := .agg #[.bool b1, .slice ad1 n1 c1, .slice ae1 m1 d1]) 76 rfl (niB (niS (niS ni0)))
  replace ge2 : w.heap.size ≤ g2 := by rw [← ge2]; exact bel.size
  refine E.opv hF (r_box (hF.at 0 rfl) hr) rfl rfl rfl rfl fun a hF => ?_
  clear hr
  replace h2 := h2.below bb
  replace hn2 := hn2.below bb
  replace ha2 := ha2.below bb
  replace hd2 := hd2.below bb
  replace h1 := h1.below bb
  replace hn1 := hn1.below bb
  replace ha1 := ha1.below bb
  replace hd1 := hd1.below bb
  replace bel := below_to bel bb
  clear bb
  obtain ⟨g3, w2, ge3, hr, bb, o3⟩ := own_box (P := Try.prog) (w := w1) (cs := [.bool b2, .slice ad2 n2 c2, .slice ae2 m2 d2]) (v := .agg #[.bool b2, .slice ad2 n2 c2, .slice ae2 m2 d2]) 79 rfl (niB (niS (niS ni0)))
  have ne2_3 : g2 ≠ g3 := by rw [← ge3]; exact o2.ne_new
  replace ge3 : w.heap.size ≤ g3 := by rw [← ge3]; exact bel.size
  refine E.opv hF (r_box (hF.at 2 rfl) hr) rfl rfl rfl rfl fun a hF => ?_
  clear hr
  replace ha1 := ha1.below bb
  replace hd1 := hd1.below bb
  replace h1 := h1.below bb
  replace hn1 := hn1.below bb
  replace h2 := h2.below bb
  replace hn2 := hn2.below bb
  replace ha2 := ha2.below bb
  replace hd2 := hd2.below bb
  replace o2 := o2.below bb
  replace bel := below_to bel bb
  clear bb
  refine E.opv hF (r_assign ev_c) rfl rfl rfl rfl fun a hF => ?_
  refine E.nil ?_
  refine wp_seq ?_
  refine E.drawn 5 mixed hF [9, 10, 11, 12, 5] [(fun _ v => v = .agg #[.bool b1, .slice ad1 n1 c1, .slice ae1 m1 d1]), (fun w v => Wc w v (Rat.num (q1))), (fun _ v => v = .agg #[.bool b1, .slice ad1 n1 c1, .slice ae1 m1 d1]), (fun w v => Dg w .u32 B32 v (Rat.den (q1))), (fun w v => ∃ g, v = .pointer (some ⟨g, 0, none⟩) ∧ w2.heap.size ≤ g ∧ Own w g [.bool false, .slice none 0 0])] [4] (by decide +kernel) (by decide +kernel) rfl rfl rfl ⟨(Mb.eq _), (fun _ _ _ h hb => h.below hb), (Mb.eq _), (fun _ _ _ h hb => h.below hb), (fun _ _ _ ⟨g, e, l, o⟩ hb => ⟨g, e, l, o.below hb⟩), trivial⟩ ⟨fun _ _ ⟨g, e, _, o⟩ => ⟨g, e, o.lt⟩, trivial⟩ ⟨?_, ?_, ?_, ?_, ?_, trivial⟩ ?_
  · intro a' w' hF' hb hd
    exact if_does (wanted_free rfl) (Does.vals (r_load (hF'.at 2 rfl) (ld_Rat (vs := [.bool b1, .slice ad1 n1 c1, .slice ae1 m1 d1]) (o2.below hb) rfl rfl)) ⟨rfl, Below.refl _ _, (fun h => absurd h (by decide))⟩)
  · intro a' w' hF' hb hd
    have e9 : a'.tmps.getD 9 undef = .agg #[.bool b1, .slice ad1 n1 c1, .slice ae1 m1 d1] := hd _ 9 (Array.mem_of_getElem? (i := 0) rfl) rfl rfl
    refine if_does (wanted_free rfl) (Does.calls (r_call Try.func49 en49.1 en49.2 (map1 e9)) (rnum_any _ (q1) _ (h1.below hb)) ?_)
    rintro e w'' ⟨v', rfl, h', bb⟩
    exact ⟨_, rfl, h', bb, (fun h => absurd h (by decide))⟩
  · intro a' w' hF' hb hd
    exact if_does (wanted_free rfl) (Does.vals (r_load (hF'.at 2 rfl) (ld_Rat (vs := [.bool b1, .slice ad1 n1 c1, .slice ae1 m1 d1]) (o2.below hb) rfl rfl)) ⟨rfl, Below.refl _ _, (fun h => absurd h (by decide))⟩)
  · intro a' w' hF' hb hd
    have e11 : a'.tmps.getD 11 undef = .agg #[.bool b1, .slice ad1 n1 c1, .slice ae1 m1 d1] := hd _ 11 (Array.mem_of_getElem? (i := 0) rfl) rfl rfl
    refine if_does (wanted_free rfl) (Does.calls (r_call Try.func50 en50.1 en50.2 (map1 e11)) (rden_any _ (q1) _ (h1.below hb)) ?_)
    rintro e w'' ⟨v', rfl, h', bb⟩
    exact ⟨_, rfl, h', bb, (fun h => absurd h (by decide))⟩
  · intro a' w' hF' hb hd
    obtain ⟨g, w2, ge, hr, bb, on⟩ := own_alloc (P := Try.prog) (w := w') (cs := [.bool false, .slice none 0 0]) 37 ze_Int rfl (niB (niS ni0))
    subst ge
    exact if_does (wanted_free rfl) (Does.vals (r_alloc hr) ⟨⟨_, rfl, hb.size, on⟩, bb, fun _ => rfl⟩)
  intro a w3 hF bb hall hne
  obtain ⟨vv4, e10, hh5⟩ : ∃ v, a.tmps.getD 10 undef = v ∧ Wc w3 v (Rat.num (q1)) := ⟨_, rfl, hall 1 10 rfl⟩
  obtain ⟨vv6, e12, hh7⟩ : ∃ v, a.tmps.getD 12 undef = v ∧ Dg w3 .u32 B32 v (Rat.den (q1)) := ⟨_, rfl, hall 3 12 rfl⟩
  obtain ⟨g5, e5, ge5, o5⟩ : ∃ g, a.tmps.getD 5 undef = .pointer (some ⟨g, 0, none⟩) ∧ w2.heap.size ≤ g ∧ Own w3 g [.bool false, .slice none 0 0] := hall 4 5 rfl
  have ne3_5 : g3 ≠ g5 := Nat.ne_of_lt (Nat.lt_of_lt_of_le o3.lt ge5)
  replace ge5 : w.heap.size ≤ g5 := Nat.le_trans bel.size ge5
  clear hall hne
  replace ha2 := ha2.below bb
  replace hd2 := hd2.below bb
  replace h2 := h2.below bb
  replace hn2 := hn2.below bb
  replace o3 := o3.below bb
  replace bel := below_to bel bb
  clear bb
  obtain ⟨ad8, n8, c8, rfl, _⟩ := Wc.shape hh5
  replace hF := hF.add e10
  clear e10
  obtain ⟨ad9, n9, c9, rfl⟩ := Dg.form hh7
  replace hF := hF.add e12
  clear e12
  replace hF := hF.add e5
  clear e5
  obtain ⟨w10, hr, tu, on⟩ := st_Int (vs := [.bool (decide (Rat.num (q1) < 0)), .slice ad8 n8 c8]) o5 rfl rfl (ocB (ocS oc0)) (niB (niS ni0)) (o := 0) rfl
  have kp := tu.keep o5
  refine E.st hF (r_store (hF.at 0 rfl) (hF.at 2 rfl) (hr _ rfl)) rfl rfl fun a hF => ?_
  clear hr
  replace hh7 := hh7.keep kp
  replace ha2 := ha2.keep kp
  replace hd2 := hd2.keep kp
  replace h2 := h2.keep kp
  replace hn2 := hn2.keep kp
  replace hh5 := hh5.keep kp
  replace o3 := tu.own o3 ne3_5
  replace bel := tu.below bel ge5
  clear tu kp
  replace o5 := on
  clear on
  have hf11 := Wc.abs hh5
  refine E.opv hF (r_assign (hF.at 1 rfl)) rfl rfl rfl rfl fun a hF => ?_
  refine E.nil ?_
  refine wp_seq ?_
  refine wp_seq ?_
  refine E.seq ?_
  refine E.opv hF (r_move (hF.at 0 rfl)) rfl rfl rfl rfl fun a hF => ?_
  refine E.call hF (r_call Try.func53 en53.1 en53.2 (map1 (hF.at 0 rfl))) (bits_any _ (Rat.den (q1)) _ (Dg.nt hh7)) rfl rfl rfl rfl ?_
  rintro e w12 ⟨rfl, hw⟩
  have bb : Below w10.heap.size w10 w12 := by rw [hw]; exact Below.refl _ _
  clear hw
  refine ⟨_, rfl, ?_⟩
  intro a hF
  replace hh7 := hh7.below bb
  replace ha2 := ha2.below bb
  replace hd2 := hd2.below bb
  replace h2 := h2.below bb
  replace hn2 := hn2.below bb
  replace hf11 := hf11.below bb
  replace hh5 := hh5.below bb
  replace o3 := o3.below bb
  replace o5 := o5.below bb
  replace bel := below_to bel bb
  clear bb
  refine E.opv hF (r_bin (hF.at 0 rfl) ev_c eg_scalar (bi_int (ic_eql (c := false) (eq0f (by omega))) (by simp))) rfl rfl rfl rfl fun a hF => ?_
  refine E.opv hF (r_move (hF.at 0 rfl)) rfl rfl rfl rfl fun a hF => ?_
  refine E.opvg hF (r_field (hF.at 5 rfl) (fa_Int_1 (p := 1) rfl)) (wanted_by rfl rfl (hF.at 0 rfl) rfl) rfl rfl rfl fun a hF => ?_
  refine E.opvg hF (r_load (hF.at 0 rfl) (ld_Nat (v := .slice ad8 n8 c8) o5 rfl)) (wanted_by rfl rfl (hF.at 1 rfl) rfl) rfl rfl rfl fun a hF => ?_
  refine E.opvg hF (r_move (hF.at 6 rfl)) (wanted_by rfl rfl (hF.at 2 rfl) rfl) rfl rfl rfl fun a hF => ?_
  refine E.callg hF (r_call Try.func48 en48.1 en48.2 (map2 (hF.at 1 rfl) (hF.at 0 rfl))) (gcd_any _ _ (Int.natAbs (Rat.num (q1))) (Rat.den (q1)) _ (Dg.nt hf11) (Dg.nt hh7)) (wanted_by rfl rfl (hF.at 3 rfl) rfl) rfl rfl rfl ?_
  rintro e w13 ⟨vv14, rfl, hh15, bb⟩
  refine ⟨_, rfl, ?_⟩
  intro a hF
  replace hh7 := hh7.below bb
  replace ha2 := ha2.below bb
  replace hd2 := hd2.below bb
  replace h2 := h2.below bb
  replace hn2 := hn2.below bb
  replace hf11 := hf11.below bb
  replace hh5 := hh5.below bb
  replace o3 := o3.below bb
  replace o5 := o5.below bb
  replace bel := below_to bel bb
  clear bb
  obtain ⟨ad16, n16, c16, rfl⟩ := Dg.form hh15
  refine E.callg hF (r_call Try.func52 en52.1 en52.2 (map1 ev_c)) (of_any 1 _ (by decide)) (wanted_by rfl rfl (hF.at 4 rfl) rfl) rfl rfl rfl ?_
  rintro e w17 ⟨vv18, rfl, hh19, bb⟩
  refine ⟨_, rfl, ?_⟩
  intro a hF
  replace hh15 := hh15.below bb
  replace hh7 := hh7.below bb
  replace ha2 := ha2.below bb
  replace hd2 := hd2.below bb
  replace h2 := h2.below bb
  replace hn2 := hn2.below bb
  replace hf11 := hf11.below bb
  replace hh5 := hh5.below bb
  replace o3 := o3.below bb
  replace o5 := o5.below bb
  replace bel := below_to bel bb
  clear bb
  obtain ⟨ad20, n20, c20, rfl⟩ := Dg.form hh19
  refine E.callg hF (r_call Try.func33 en33.1 en33.2 (map2 (hF.at 1 rfl) (hF.at 0 rfl))) (cmp_any _ _ (Nat.gcd (Int.natAbs (Rat.num (q1))) (Rat.den (q1))) 1 _ (Dg.nt hh15) (Dg.nt hh19)) (wanted_by rfl rfl (hF.at 5 rfl) rfl) rfl rfl rfl ?_
  intro e w21 hh
  obtain ⟨rfl, bb, hsz⟩ := quiet_below hh
  clear hh hsz
  refine ⟨_, rfl, ?_⟩
  intro a hF
  replace hh7 := hh7.below bb
  replace ha2 := ha2.below bb
  replace hd2 := hd2.below bb
  replace h2 := h2.below bb
  replace hn2 := hn2.below bb
  replace hf11 := hf11.below bb
  replace hh5 := hh5.below bb
  replace o3 := o3.below bb
  replace o5 := o5.below bb
  replace bel := below_to bel bb
  clear bb
  refine E.opvg hF (r_bin (hF.at 0 rfl) ev_c eg_scalar (bi_int (ic_neq (c := false) (ne0 (c3_eqx q1.reduced))) (by simp))) (wanted_by rfl rfl (hF.at 6 rfl) rfl) rfl rfl rfl fun a hF => ?_
  refine E.opv hF (r_pick_f (hF.at 7 rfl) (hF.at 0 rfl)) rfl rfl rfl rfl fun a hF => ?_
  refine E.nil ?_
  refine wp_cond_false (hF.at 0 rfl) ?_
  refine wp_skip ?_
  refine E.norm ?_
  refine wp_seq ?_
  refine E.drawn 9 mixed hF [25, 26, 27, 28, 29, 30, 31, 32, 7] [(fun _ v => v = .pointer (some ⟨g5, 0, none⟩)), (fun _ v => v = .bool (decide (Rat.num (q1) < 0))), (fun _ v => v = .pointer (some ⟨g5, 1, none⟩)), (fun _ v => v = .slice ad8 n8 c8), (fun w v => Dg w .i64 65536 v (Int.natAbs (Rat.num (q1)))), (fun w v => Rz w v (sg ((decide (Rat.num (q1) < 0))) (Int.natAbs (Rat.num (q1))))), (fun _ v => v = .slice ad9 n9 c9), (fun w v => Dg w .i64 65536 v (Rat.den (q1))), (fun w v => ∃ g, v = .pointer (some ⟨g, 0, none⟩) ∧ w21.heap.size ≤ g ∧ Own w g [.bool false, .slice none 0 0])] [8] (by decide +kernel) (by decide +kernel) rfl rfl rfl ⟨(Mb.eq _), (Mb.eq _), (Mb.eq _), (Mb.eq _), (fun _ _ _ h hb => h.below hb), (fun _ _ _ h hb => h.below hb), (Mb.eq _), (fun _ _ _ h hb => h.below hb), (fun _ _ _ ⟨g, e, l, o⟩ hb => ⟨g, e, l, o.below hb⟩), trivial⟩ ⟨fun _ _ ⟨g, e, _, o⟩ => ⟨g, e, o.lt⟩, trivial⟩ ⟨?_, ?_, ?_, ?_, ?_, ?_, ?_, ?_, ?_, trivial⟩ ?_
  · intro a' w' hF' hb hd
    exact if_does (wanted_free rfl) (Does.vals (r_field (hF'.at 13 rfl) (fa_Int_0 (p := 0) rfl)) ⟨rfl, Below.refl _ _, (fun h => absurd h (by decide))⟩)
  · intro a' w' hF' hb hd
    have e25 : a'.tmps.getD 25 undef = .pointer (some ⟨g5, 0, none⟩) := hd _ 25 (Array.mem_of_getElem? (i := 0) rfl) rfl rfl
    exact if_does (wanted_free rfl) (Does.vals (r_load e25 (ld_bool (v := .bool (decide (Rat.num (q1) < 0))) (o5.below hb) rfl)) ⟨rfl, Below.refl _ _, (fun h => absurd h (by decide))⟩)
  · intro a' w' hF' hb hd
    exact if_does (wanted_free rfl) (Does.vals (r_field (hF'.at 13 rfl) (fa_Int_1 (p := 1) rfl)) ⟨rfl, Below.refl _ _, (fun h => absurd h (by decide))⟩)
  · intro a' w' hF' hb hd
    have e27 : a'.tmps.getD 27 undef = .pointer (some ⟨g5, 1, none⟩) := hd _ 27 (Array.mem_of_getElem? (i := 0) rfl) rfl rfl
    exact if_does (wanted_free rfl) (Does.vals (r_load e27 (ld_Nat (v := .slice ad8 n8 c8) (o5.below hb) rfl)) ⟨rfl, Below.refl _ _, (fun h => absurd h (by decide))⟩)
  · intro a' w' hF' hb hd
    have e28 : a'.tmps.getD 28 undef = .slice ad8 n8 c8 := hd _ 28 (Array.mem_of_getElem? (i := 0) rfl) rfl rfl
    refine if_does (wanted_free rfl) (Does.calls (r_call Try.func92 en92.1 en92.2 (map1 e28)) (sfrom_dg _ (Int.natAbs (Rat.num (q1))) _ (hf11.below hb) (Lim.dl (l1.1) _ (by omega))) ?_)
    rintro e w'' ⟨v', rfl, h', bb⟩
    exact ⟨_, rfl, h', bb, (fun h => absurd h (by decide))⟩
  · intro a' w' hF' hb hd
    have e26 : a'.tmps.getD 26 undef = .bool (decide (Rat.num (q1) < 0)) := hd _ 26 (Array.mem_of_getElem? (i := 0) rfl) rfl rfl
    obtain ⟨v29_0, e29, h29_1⟩ : ∃ v, a'.tmps.getD 29 undef = v ∧ Dg w' .i64 65536 v (Int.natAbs (Rat.num (q1))) := ⟨_, rfl, hd _ 29 (Array.mem_of_getElem? (i := 1) rfl) rfl rfl⟩
    refine if_does (wanted_free rfl) (Does.calls (r_call Try.func87 en87.1 en87.2 (map2 e26 e29)) (rmake_any _ _ (Int.natAbs (Rat.num (q1))) _ h29_1) ?_)
    rintro e w'' ⟨v', rfl, h', bb⟩
    exact ⟨_, rfl, h', bb, (fun h => absurd h (by decide))⟩
  · intro a' w' hF' hb hd
    exact if_does (wanted_free rfl) (Does.vals (r_move (hF'.at 12 rfl)) ⟨rfl, Below.refl _ _, (fun h => absurd h (by decide))⟩)
  · intro a' w' hF' hb hd
    have e31 : a'.tmps.getD 31 undef = .slice ad9 n9 c9 := hd _ 31 (Array.mem_of_getElem? (i := 0) rfl) rfl rfl
    refine if_does (wanted_free rfl) (Does.calls (r_call Try.func92 en92.1 en92.2 (map1 e31)) (sfrom_dg _ (Rat.den (q1)) _ (hh7.below hb) (Lim.dl (l1.2) _ (by omega))) ?_)
    rintro e w'' ⟨v', rfl, h', bb⟩
    exact ⟨_, rfl, h', bb, (fun h => absurd h (by decide))⟩
  · intro a' w' hF' hb hd
    obtain ⟨g, w2, ge, hr, bb, on⟩ := own_alloc (P := Try.prog) (w := w') (cs := [.bool false, .slice none 0 0]) 43 ze_RInt rfl (niB (niS ni0))
    subst ge
    exact if_does (wanted_free rfl) (Does.vals (r_alloc hr) ⟨⟨_, rfl, hb.size, on⟩, bb, fun _ => rfl⟩)
  intro a w22 hF bb hall hne
  obtain ⟨vv23, e30, hh24⟩ : ∃ v, a.tmps.getD 30 undef = v ∧ Rz w22 v (sg ((decide (Rat.num (q1) < 0))) (Int.natAbs (Rat.num (q1)))) := ⟨_, rfl, hall 5 30 rfl⟩
  obtain ⟨vv25, e32, hh26⟩ : ∃ v, a.tmps.getD 32 undef = v ∧ Dg w22 .i64 65536 v (Rat.den (q1)) := ⟨_, rfl, hall 7 32 rfl⟩
  obtain ⟨g7, e7, ge7, o7⟩ : ∃ g, a.tmps.getD 7 undef = .pointer (some ⟨g, 0, none⟩) ∧ w21.heap.size ≤ g ∧ Own w22 g [.bool false, .slice none 0 0] := hall 8 7 rfl
  have ne3_7 : g3 ≠ g7 := Nat.ne_of_lt (Nat.lt_of_lt_of_le o3.lt ge7)
  replace ge7 : w.heap.size ≤ g7 := Nat.le_trans bel.size ge7
  clear hall hne
  replace ha2 := ha2.below bb
  replace hd2 := hd2.below bb
  replace h2 := h2.below bb
  replace hn2 := hn2.below bb
  replace o3 := o3.below bb
  replace bel := below_to bel bb
  clear bb
  obtain ⟨b27, ad27, n27, c27, rfl⟩ := Rz.form hh24
  replace hF := hF.add e30
  clear e30
  obtain ⟨ad28, n28, c28, rfl⟩ := Dg.form hh26
  replace hF := hF.add e32
  clear e32
  replace hF := hF.add e7
  clear e7
  obtain ⟨w29, hr, tu, on⟩ := st_RInt (vs := [.bool b27, .slice ad27 n27 c27]) o7 rfl rfl (ocB (ocS oc0)) (niB (niS ni0)) (o := 0) rfl
  have kp := tu.keep o7
  refine E.st hF (r_store (hF.at 0 rfl) (hF.at 2 rfl) (hr _ rfl)) rfl rfl fun a hF => ?_
  clear hr
  replace hh26 := hh26.keep kp
  replace ha2 := ha2.keep kp
  replace hd2 := hd2.keep kp
  replace h2 := h2.keep kp
  replace hn2 := hn2.keep kp
  replace hh24 := hh24.keep kp
  replace o3 := tu.own o3 ne3_7
  replace bel := tu.below bel ge7
  clear tu kp
  replace o7 := on
  clear on
  have hf30 := Rz.abs hh24
  refine E.opv hF (r_assign (hF.at 1 rfl)) rfl rfl rfl rfl fun a hF => ?_
  refine E.nil ?_
  refine wp_seq ?_
  refine wp_seq ?_
  refine E.drawn 12 mixed hF [33, 34, 35, 36, 37, 38, 39, 40, 41, 42, 43, 44] [(fun _ v => v = .agg #[.bool b27, .slice ad27 n27 c27]), (fun _ v => v = .pointer (some ⟨g3, 2, none⟩)), (fun _ v => v = .slice ae2 m2 d2), (fun _ v => v = .agg #[.bool false, .slice ae2 m2 d2]), (fun w v => Rz w v ((sg ((decide (Rat.num (q1) < 0))) (Int.natAbs (Rat.num (q1)))) * (((D2 : Nat) : Int)))), (fun _ v => v = .pointer (some ⟨g3, 0, none⟩)), (fun _ v => v = .agg #[.bool b2, .slice ad2 n2 c2]), (fun _ v => v = .slice ad28 n28 c28), (fun _ v => v = .agg #[.bool false, .slice ad28 n28 c28]), (fun w v => Rz w v (z2 * (((Rat.den (q1) : Nat) : Int)))), (fun _ v => v = .int .i64 (ci ((sg ((decide (Rat.num (q1) < 0))) (Int.natAbs (Rat.num (q1)))) * (((D2 : Nat) : Int))) (z2 * (((Rat.den (q1) : Nat) : Int))))), (fun _ v => v = .bool false)] [] (by decide +kernel) (by decide +kernel) rfl rfl rfl ⟨(Mb.eq _), (Mb.eq _), (Mb.eq _), (Mb.eq _), (fun _ _ _ h hb => h.below hb), (Mb.eq _), (Mb.eq _), (Mb.eq _), (Mb.eq _), (fun _ _ _ h hb => h.below hb), (Mb.eq _), (Mb.eq _), trivial⟩ trivial ⟨?_, ?_, ?_, ?_, ?_, ?_, ?_, ?_, ?_, ?_, ?_, ?_, trivial⟩ ?_
  · intro a' w' hF' hb hd
    exact if_does (wanted_free rfl) (Does.vals (r_load (hF'.at 1 rfl) (ld_RInt (vs := [.bool b27, .slice ad27 n27 c27]) (o7.below hb) rfl rfl)) ⟨rfl, Below.refl _ _, (fun h => absurd h (by decide))⟩)
  · intro a' w' hF' hb hd
    exact if_does (wanted_free rfl) (Does.vals (r_field (hF'.at 21 rfl) (fa_RRat_1 (p := 2) rfl)) ⟨rfl, Below.refl _ _, (fun h => absurd h (by decide))⟩)
  · intro a' w' hF' hb hd
    have e34 : a'.tmps.getD 34 undef = .pointer (some ⟨g3, 2, none⟩) := hd _ 34 (Array.mem_of_getElem? (i := 0) rfl) rfl rfl
    exact if_does (wanted_free rfl) (Does.vals (r_load e34 (ld_Num (v := .slice ae2 m2 d2) (o3.below hb) rfl)) ⟨rfl, Below.refl _ _, (fun h => absurd h (by decide))⟩)
  · intro a' w' hF' hb hd
    have e35 : a'.tmps.getD 35 undef = .slice ae2 m2 d2 := hd _ 35 (Array.mem_of_getElem? (i := 0) rfl) rfl rfl
    exact if_does (wanted_free rfl) (Does.vals (r_build (pair1 e35) (bd_RInt_1 _ _ _ _)) ⟨rfl, Below.refl _ _, (fun h => absurd h (by decide))⟩)
  · intro a' w' hF' hb hd
    have e33 : a'.tmps.getD 33 undef = .agg #[.bool b27, .slice ad27 n27 c27] := hd _ 33 (Array.mem_of_getElem? (i := 0) rfl) rfl rfl
    have e36 : a'.tmps.getD 36 undef = .agg #[.bool false, .slice ae2 m2 d2] := hd _ 36 (Array.mem_of_getElem? (i := 1) rfl) rfl rfl
    refine if_does (wanted_free rfl) (Does.calls (r_call Try.func91 en91.1 en91.2 (map2 e33 e36)) (rmul_any _ _ _ _ k1 k2 _ (hh24.below hb) (Rz.nat (hd2.below hb)) (sg_lim _ (l1.1)) (lim_cast lD2) (by omega) (by omega)) ?_)
    rintro e w'' ⟨v', rfl, h', bb⟩
    exact ⟨_, rfl, h', bb, (fun h => absurd h (by decide))⟩
  · intro a' w' hF' hb hd
    exact if_does (wanted_free rfl) (Does.vals (r_field (hF'.at 21 rfl) (fa_RRat_0 (p := 0) rfl)) ⟨rfl, Below.refl _ _, (fun h => absurd h (by decide))⟩)
  · intro a' w' hF' hb hd
    have e38 : a'.tmps.getD 38 undef = .pointer (some ⟨g3, 0, none⟩) := hd _ 38 (Array.mem_of_getElem? (i := 0) rfl) rfl rfl
    exact if_does (wanted_free rfl) (Does.vals (r_load e38 (ld_RInt (vs := [.bool b2, .slice ad2 n2 c2]) (o3.below hb) rfl rfl)) ⟨rfl, Below.refl _ _, (fun h => absurd h (by decide))⟩)
  · intro a' w' hF' hb hd
    exact if_does (wanted_free rfl) (Does.vals (r_move (hF'.at 0 rfl)) ⟨rfl, Below.refl _ _, (fun h => absurd h (by decide))⟩)
  · intro a' w' hF' hb hd
    have e40 : a'.tmps.getD 40 undef = .slice ad28 n28 c28 := hd _ 40 (Array.mem_of_getElem? (i := 0) rfl) rfl rfl
    exact if_does (wanted_free rfl) (Does.vals (r_build (pair1 e40) (bd_RInt_1 _ _ _ _)) ⟨rfl, Below.refl _ _, (fun h => absurd h (by decide))⟩)
  · intro a' w' hF' hb hd
    have e39 : a'.tmps.getD 39 undef = .agg #[.bool b2, .slice ad2 n2 c2] := hd _ 39 (Array.mem_of_getElem? (i := 0) rfl) rfl rfl
    have e41 : a'.tmps.getD 41 undef = .agg #[.bool false, .slice ad28 n28 c28] := hd _ 41 (Array.mem_of_getElem? (i := 1) rfl) rfl rfl
    refine if_does (wanted_free rfl) (Does.calls (r_call Try.func91 en91.1 en91.2 (map2 e39 e41)) (rmul_any _ _ _ _ k2 k1 _ (hn2.below hb) (Rz.nat (hh26.below hb)) lz2 (lim_cast (l1.2)) (by omega) (by omega)) ?_)
    rintro e w'' ⟨v', rfl, h', bb⟩
    exact ⟨_, rfl, h', bb, (fun h => absurd h (by decide))⟩
  · intro a' w' hF' hb hd
    obtain ⟨v37_0, e37, h37_1⟩ : ∃ v, a'.tmps.getD 37 undef = v ∧ Rz w' v ((sg ((decide (Rat.num (q1) < 0))) (Int.natAbs (Rat.num (q1)))) * (((D2 : Nat) : Int))) := ⟨_, rfl, hd _ 37 (Array.mem_of_getElem? (i := 0) rfl) rfl rfl⟩
    obtain ⟨v42_0, e42, h42_1⟩ : ∃ v, a'.tmps.getD 42 undef = v ∧ Rz w' v (z2 * (((Rat.den (q1) : Nat) : Int))) := ⟨_, rfl, hd _ 42 (Array.mem_of_getElem? (i := 1) rfl) rfl rfl⟩
    refine if_does (wanted_free rfl) (Does.calls (r_call Try.func117 en117.1 en117.2 (map2 e37 e42)) (rcmp_any3 _ _ _ _ (k1 + k2) (k2 + k1) _ h37_1 h42_1 (limz_mul (sg_lim _ (l1.1)) (lim_cast lD2)) (limz_mul lz2 (lim_cast (l1.2))) (by omega) (by omega)) ?_)
    rintro e w'' ⟨rfl, bb⟩
    exact ⟨_, rfl, rfl, bb, (fun h => absurd h (by decide))⟩
  · intro a' w' hF' hb hd
    have e43 : a'.tmps.getD 43 undef = .int .i64 (ci ((sg ((decide (Rat.num (q1) < 0))) (Int.natAbs (Rat.num (q1)))) * (((D2 : Nat) : Int))) (z2 * (((Rat.den (q1) : Nat) : Int)))) := hd _ 43 (Array.mem_of_getElem? (i := 0) rfl) rfl rfl
    exact if_does (wanted_free rfl) (Does.vals (r_bin e43 ev_c eg_scalar (bi_int (ic_neq (c := false) (ne0 (ci_same (by rw [sg_dec]; exact HX.out)))) (by simp))) ⟨rfl, Below.refl _ _, (fun h => absurd h (by decide))⟩)
  intro a w31 hF bb hall hne
  have e44 : a.tmps.getD 44 undef = .bool false := hall 11 44 rfl
  clear hall hne
  replace bel := below_to bel bb
  clear bb
  replace hF := hF.add e44
  clear e44
  refine E.nil ?_
  refine wp_cond_false (hF.at 0 rfl) ?_
  refine wp_skip ?_
  refine E.norm ?_
  refine wp_seq ?_
  refine E.seq ?_
  refine E.opset (L' := [(4, .int .i64 0), (44, .bool false), (8, .slice ad28 n28 c28), (7, .pointer (some ⟨g7, 0, none⟩)), (32, .slice ad28 n28 c28), (30, .agg #[.bool b27, .slice ad27 n27 c27]), (24, .bool false), (23, .bool false), (22, .int .i64 (c3 (Nat.gcd (Int.natAbs (Rat.num (q1))) (Rat.den (q1))) (1))), (21, .slice ad20 n20 c20), (20, .slice ad16 n16 c16), (19, .slice ad9 n9 c9), (18, .slice ad8 n8 c8), (17, .pointer (some ⟨g5, 1, none⟩)), (16, .bool false), (15, .bool false), (14, .int .i64 (dl 2 (Rat.den (q1)) : Nat)), (13, .slice ad9 n9 c9), (6, .slice ad9 n9 c9), (5, .pointer (some ⟨g5, 0, none⟩)), (12, .slice ad9 n9 c9), (10, .agg #[.bool (decide (Rat.num (q1) < 0)), .slice ad8 n8 c8]), (3, .pointer (some ⟨g3, 0, none⟩)), (2, .pointer (some ⟨g2, 0, none⟩)), (0, .agg #[.bool b1, .slice ad1 n1 c1, .slice ae1 m1 d1]), (1, .agg #[.bool b2, .slice ad2 n2 c2, .slice ae2 m2 d2])]) hF (r_assign ev_c) rfl rfl rfl rfl fun a hF => ?_
  refine E.nil ?_
  refine wp_ret ?_
  refine bodyPost_ret (res_tmp Try.results51 (hF.at 0 rfl)) hF.dfr ?_
  exact ⟨rfl, bel⟩

set_option maxHeartbeats 1000000 in
theorem awake5_any (w : World) :
    Calls Try.prog 45 #[] w (TruePost w) := by
  have bel : Below w.heap.size w w := Below.refl _ _
  refine E.enter (nt := 30) (L := []) Try.func45 rfl rfl rfl args_nil ?_
  intro a hF
  refine wp_seq ?_
  refine E.seq ?_
  refine E.opv hF (r_assign ev_c) rfl rfl rfl rfl fun a hF => ?_
  refine E.nil ?_
  refine wp_seq ?_
  refine E.seq ?_
  refine E.call hF (r_call Try.func72 en72.1 en72.2 (map2 ev_c ev_c)) (rOf2_any ((-6)) ((-4)) _ (by decide) (by decide) (by decide) (by decide)) rfl rfl rfl rfl ?_
  rintro e w1 ⟨vv2, rfl, hh3, bb⟩
  refine ⟨_, rfl, ?_⟩
  intro a hF
  replace bel := below_to bel bb
  clear bb
  obtain ⟨b4, ad4, n4, c4, ae4, m4, d4, rfl, hn4, hd4⟩ := Rq.shape hh3
  have hf5 := Wc.abs hn4
  obtain ⟨g1, w6, ge1, hr, bb, o1⟩ := own_alloc (P := Try.prog) (w := w1) (cs := [.bool false, .slice none 0 0, .slice none 0 0]) 76 ze_Rat rfl (niB (niS (niS ni0)))
  replace ge1 : w.heap.size ≤ g1 := by rw [← ge1]; exact bel.size
  refine E.opv hF (r_alloc hr) rfl rfl rfl rfl fun a hF => ?_
  clear hr
  replace hh3 := hh3.below bb
  replace hn4 := hn4.below bb
  replace hf5 := hf5.below bb
  replace hd4 := hd4.below bb
  replace bel := below_to bel bb
  clear bb
  obtain ⟨w7, hr, tu, on⟩ := st_Rat (vs := [.bool b4, .slice ad4 n4 c4, .slice ae4 m4 d4]) o1 rfl rfl (ocB (ocS (ocS oc0))) (niB (niS (niS ni0))) (o := 0) rfl
  have kp := tu.keep o1
  refine E.st hF (r_store (hF.at 0 rfl) (hF.at 1 rfl) (hr _ rfl)) rfl rfl fun a hF => ?_
  clear hr
  replace hh3 := hh3.keep kp
  replace hn4 := hn4.keep kp
  replace hf5 := hf5.keep kp
  replace hd4 := hd4.keep kp
  replace bel := tu.below bel ge1
  clear tu kp
  replace o1 := on
  clear on
  refine E.nil ?_
  refine wp_seq ?_
  refine E.drawn 27 mixed hF [3, 4, 5, 6, 7, 8, 9, 10, 11, 12, 13, 14, 15, 16, 17, 18, 19, 20, 21, 22, 23, 24, 25, 26, 27, 28, 29] [(fun _ v => v = .agg #[.bool b4, .slice ad4 n4 c4, .slice ae4 m4 d4]), (fun w v => Rr w v (((3 : Int) : Rat) / ((2 : Int) : Rat)) (2)), (fun _ v => v = .int .i64 0), (fun _ v => v = .bool true), (fun _ v => v = .bool true), (fun w v => Rq w v (((5 : Int) : Rat) / ((0 : Int) : Rat))), (fun w v => Rr w v (((0 : Int) : Rat) / ((1 : Int) : Rat)) (2)), (fun _ v => v = .int .i64 0), (fun _ v => v = .bool true), (fun _ v => v = .bool true), (fun _ v => v = .bool true), (fun _ v => v = .agg #[.bool false, .slice none 0 0, .slice none 0 0]), (fun w v => Rr w v (((0 : Int) : Rat) / ((1 : Int) : Rat)) (2)), (fun _ v => v = .int .i64 0), (fun _ v => v = .bool true), (fun _ v => v = .bool true), (fun _ v => v = .bool true), (fun _ v => v = .agg #[.bool b4, .slice ad4 n4 c4, .slice ae4 m4 d4]), (fun _ v => v = .int .i64 (sz (Rat.num ((((-6) : Int) : Rat) / (((-4) : Int) : Rat))))), (fun _ v => v = .bool true), (fun _ v => v = .bool true), (fun _ v => v = .bool true), (fun w v => Rq w v ((((-2) : Int) : Rat))), (fun _ v => v = .agg #[.bool b4, .slice ad4 n4 c4, .slice ae4 m4 d4]), (fun _ v => v = .int .i64 (qc ((((-2) : Int) : Rat)) ((((-6) : Int) : Rat) / (((-4) : Int) : Rat)))), (fun _ v => v = .bool true), (fun _ v => v = .bool true)] [] (by decide +kernel) (by decide +kernel) rfl rfl rfl ⟨(Mb.eq _), (fun _ _ _ h hb => h.below hb), (Mb.eq _), (Mb.eq _), (Mb.eq _), (fun _ _ _ h hb => h.below hb), (fun _ _ _ h hb => h.below hb), (Mb.eq _), (Mb.eq _), (Mb.eq _), (Mb.eq _), (Mb.eq _), (fun _ _ _ h hb => h.below hb), (Mb.eq _), (Mb.eq _), (Mb.eq _), (Mb.eq _), (Mb.eq _), (Mb.eq _), (Mb.eq _), (Mb.eq _), (Mb.eq _), (fun _ _ _ h hb => h.below hb), (Mb.eq _), (Mb.eq _), (Mb.eq _), (Mb.eq _), trivial⟩ trivial ⟨?_, ?_, ?_, ?_, ?_, ?_, ?_, ?_, ?_, ?_, ?_, ?_, ?_, ?_, ?_, ?_, ?_, ?_, ?_, ?_, ?_, ?_, ?_, ?_, ?_, ?_, ?_, trivial⟩ ?_
  · intro a' w' hF' hb hd
    exact if_does (wanted_free rfl) (Does.vals (r_load (hF'.at 0 rfl) (ld_Rat (vs := [.bool b4, .slice ad4 n4 c4, .slice ae4 m4 d4]) (o1.below hb) rfl rfl)) ⟨rfl, Below.refl _ _, (fun h => absurd h (by decide))⟩)
  · intro a' w' hF' hb hd
    refine if_does (wanted_free rfl) (Does.calls (r_call Try.func110 en110.1 en110.2 (map2 ev_c ev_c)) (dOf_any (3) (2) _ (by decide) (by decide) (by decide) (by decide)) ?_)
    rintro e w'' ⟨v', rfl, h', bb⟩
    exact ⟨_, rfl, h', bb, (fun h => absurd h (by decide))⟩
  · intro a' w' hF' hb hd
    have e3 : a'.tmps.getD 3 undef = .agg #[.bool b4, .slice ad4 n4 c4, .slice ae4 m4 d4] := hd _ 3 (Array.mem_of_getElem? (i := 0) rfl) rfl rfl
    obtain ⟨v4_0, e4, h4_1⟩ : ∃ v, a'.tmps.getD 4 undef = v ∧ Rr w' v (((3 : Int) : Rat) / ((2 : Int) : Rat)) (2) := ⟨_, rfl, hd _ 4 (Array.mem_of_getElem? (i := 1) rfl) rfl rfl⟩
    refine if_does (wanted_free rfl) (Does.calls (r_call Try.func51 en51.1 en51.2 (map2 e3 e4)) (Is5_any _ _ ((((-6) : Int) : Rat) / (((-4) : Int) : Rat)) (((3 : Int) : Rat) / ((2 : Int) : Rat)) 2 2 _ (hh3.below hb) h4_1 (RLim.up (rlim_mk2 (limz_64 (by decide) (by decide)) (limz_64 (by decide) (by decide))) 2 (by decide)) (by decide +kernel) (by omega) (by omega)) ?_)
    rintro e w'' ⟨rfl, bb⟩
    exact ⟨_, rfl, rfl, bb, (fun h => absurd h (by decide))⟩
  · intro a' w' hF' hb hd
    have e5 : a'.tmps.getD 5 undef = .int .i64 0 := hd _ 5 (Array.mem_of_getElem? (i := 0) rfl) rfl rfl
    exact if_does (wanted_free rfl) (Does.vals (r_bin e5 ev_c eg_scalar (bi_int (ic_eql (c := true) (by simp)) (by simp))) ⟨rfl, Below.refl _ _, (fun h => absurd h (by decide))⟩)
  · intro a' w' hF' hb hd
    have e6 : a'.tmps.getD 6 undef = .bool true := hd _ 6 (Array.mem_of_getElem? (i := 0) rfl) rfl rfl
    exact if_does (wanted_free rfl) (Does.vals (r_move e6) ⟨rfl, Below.refl _ _, (fun h => absurd h (by decide))⟩)
  · intro a' w' hF' hb hd
    have e7 : a'.tmps.getD 7 undef = .bool true := hd _ 7 (Array.mem_of_getElem? (i := 0) rfl) rfl rfl
    refine if_does (wanted_by rfl rfl e7 rfl) (Does.calls (r_call Try.func72 en72.1 en72.2 (map2 ev_c ev_c)) (rOf2_any (5) (0) _ (by decide) (by decide) (by decide) (by decide)) ?_)
    rintro e w'' ⟨v', rfl, h', bb⟩
    exact ⟨_, rfl, h', bb, (fun h => absurd h (by decide))⟩
  · intro a' w' hF' hb hd
    have e7 : a'.tmps.getD 7 undef = .bool true := hd _ 7 (Array.mem_of_getElem? (i := 1) rfl) rfl rfl
    refine if_does (wanted_by rfl rfl e7 rfl) (Does.calls (r_call Try.func110 en110.1 en110.2 (map2 ev_c ev_c)) (dOf_any (0) (1) _ (by decide) (by decide) (by decide) (by decide)) ?_)
    rintro e w'' ⟨v', rfl, h', bb⟩
    exact ⟨_, rfl, h', bb, (fun h => absurd h (by decide))⟩
  · intro a' w' hF' hb hd
    have e7 : a'.tmps.getD 7 undef = .bool true := hd _ 7 (Array.mem_of_getElem? (i := 3) rfl) rfl rfl
    obtain ⟨v8_0, e8, h8_1⟩ : ∃ v, a'.tmps.getD 8 undef = v ∧ Rq w' v (((5 : Int) : Rat) / ((0 : Int) : Rat)) := ⟨_, rfl, hd _ 8 (Array.mem_of_getElem? (i := 0) rfl) rfl rfl⟩
    obtain ⟨v9_0, e9, h9_1⟩ : ∃ v, a'.tmps.getD 9 undef = v ∧ Rr w' v (((0 : Int) : Rat) / ((1 : Int) : Rat)) (2) := ⟨_, rfl, hd _ 9 (Array.mem_of_getElem? (i := 1) rfl) rfl rfl⟩
    refine if_does (wanted_by rfl rfl e7 rfl) (Does.calls (r_call Try.func51 en51.1 en51.2 (map2 e8 e9)) (Is5_any _ _ (((5 : Int) : Rat) / ((0 : Int) : Rat)) (((0 : Int) : Rat) / ((1 : Int) : Rat)) 2 2 _ h8_1 h9_1 (RLim.up (rlim_mk2 (limz_64 (by decide) (by decide)) (limz_64 (by decide) (by decide))) 2 (by decide)) (by decide +kernel) (by omega) (by omega)) ?_)
    rintro e w'' ⟨rfl, bb⟩
    exact ⟨_, rfl, rfl, bb, (fun h => absurd h (by decide))⟩
  · intro a' w' hF' hb hd
    have e7 : a'.tmps.getD 7 undef = .bool true := hd _ 7 (Array.mem_of_getElem? (i := 1) rfl) rfl rfl
    have e10 : a'.tmps.getD 10 undef = .int .i64 0 := hd _ 10 (Array.mem_of_getElem? (i := 0) rfl) rfl rfl
    exact if_does (wanted_by rfl rfl e7 rfl) (Does.vals (r_bin e10 ev_c eg_scalar (bi_int (ic_eql (c := true) (by simp)) (by simp))) ⟨rfl, Below.refl _ _, (fun h => absurd h (by decide))⟩)
  · intro a' w' hF' hb hd
    have e7 : a'.tmps.getD 7 undef = .bool true := hd _ 7 (Array.mem_of_getElem? (i := 0) rfl) rfl rfl
    have e11 : a'.tmps.getD 11 undef = .bool true := hd _ 11 (Array.mem_of_getElem? (i := 1) rfl) rfl rfl
    exact if_does (wanted_free rfl) (Does.vals (r_pick_t e7 e11) ⟨rfl, Below.refl _ _, (fun h => absurd h (by decide))⟩)
  · intro a' w' hF' hb hd
    have e12 : a'.tmps.getD 12 undef = .bool true := hd _ 12 (Array.mem_of_getElem? (i := 0) rfl) rfl rfl
    exact if_does (wanted_free rfl) (Does.vals (r_move e12) ⟨rfl, Below.refl _ _, (fun h => absurd h (by decide))⟩)
  · intro a' w' hF' hb hd
    have e13 : a'.tmps.getD 13 undef = .bool true := hd _ 13 (Array.mem_of_getElem? (i := 0) rfl) rfl rfl
    exact if_does (wanted_by rfl rfl e13 rfl) (Does.vals (r_build (by simp) (bd_Rat_ _)) ⟨rfl, Below.refl _ _, (fun h => absurd h (by decide))⟩)
  · intro a' w' hF' hb hd
    have e13 : a'.tmps.getD 13 undef = .bool true := hd _ 13 (Array.mem_of_getElem? (i := 0) rfl) rfl rfl
    refine if_does (wanted_by rfl rfl e13 rfl) (Does.calls (r_call Try.func110 en110.1 en110.2 (map2 ev_c ev_c)) (dOf_any (0) (1) _ (by decide) (by decide) (by decide) (by decide)) ?_)
    rintro e w'' ⟨v', rfl, h', bb⟩
    exact ⟨_, rfl, h', bb, (fun h => absurd h (by decide))⟩
  · intro a' w' hF' hb hd
    have e13 : a'.tmps.getD 13 undef = .bool true := hd _ 13 (Array.mem_of_getElem? (i := 3) rfl) rfl rfl
    have e14 : a'.tmps.getD 14 undef = .agg #[.bool false, .slice none 0 0, .slice none 0 0] := hd _ 14 (Array.mem_of_getElem? (i := 0) rfl) rfl rfl
    obtain ⟨v15_0, e15, h15_1⟩ : ∃ v, a'.tmps.getD 15 undef = v ∧ Rr w' v (((0 : Int) : Rat) / ((1 : Int) : Rat)) (2) := ⟨_, rfl, hd _ 15 (Array.mem_of_getElem? (i := 1) rfl) rfl rfl⟩
    refine if_does (wanted_by rfl rfl e13 rfl) (Does.calls (r_call Try.func51 en51.1 en51.2 (map2 e14 e15)) (Is5_any _ _ (0) (((0 : Int) : Rat) / ((1 : Int) : Rat)) 1 2 _ (Rq.zero _) h15_1 (rlim_zero (by decide)) (by decide +kernel) (by omega) (by omega)) ?_)
    rintro e w'' ⟨rfl, bb⟩
    exact ⟨_, rfl, rfl, bb, (fun h => absurd h (by decide))⟩
  · intro a' w' hF' hb hd
    have e13 : a'.tmps.getD 13 undef = .bool true := hd _ 13 (Array.mem_of_getElem? (i := 1) rfl) rfl rfl
    have e16 : a'.tmps.getD 16 undef = .int .i64 0 := hd _ 16 (Array.mem_of_getElem? (i := 0) rfl) rfl rfl
    exact if_does (wanted_by rfl rfl e13 rfl) (Does.vals (r_bin e16 ev_c eg_scalar (bi_int (ic_eql (c := true) (by simp)) (by simp))) ⟨rfl, Below.refl _ _, (fun h => absurd h (by decide))⟩)
  · intro a' w' hF' hb hd
    have e13 : a'.tmps.getD 13 undef = .bool true := hd _ 13 (Array.mem_of_getElem? (i := 0) rfl) rfl rfl
    have e17 : a'.tmps.getD 17 undef = .bool true := hd _ 17 (Array.mem_of_getElem? (i := 1) rfl) rfl rfl
    exact if_does (wanted_free rfl) (Does.vals (r_pick_t e13 e17) ⟨rfl, Below.refl _ _, (fun h => absurd h (by decide))⟩)
  · intro a' w' hF' hb hd
    have e18 : a'.tmps.getD 18 undef = .bool true := hd _ 18 (Array.mem_of_getElem? (i := 0) rfl) rfl rfl
    exact if_does (wanted_free rfl) (Does.vals (r_move e18) ⟨rfl, Below.refl _ _, (fun h => absurd h (by decide))⟩)
  · intro a' w' hF' hb hd
    have e19 : a'.tmps.getD 19 undef = .bool true := hd _ 19 (Array.mem_of_getElem? (i := 0) rfl) rfl rfl
    exact if_does (wanted_by rfl rfl e19 rfl) (Does.vals (r_load (hF'.at 0 rfl) (ld_Rat (vs := [.bool b4, .slice ad4 n4 c4, .slice ae4 m4 d4]) (o1.below hb) rfl rfl)) ⟨rfl, Below.refl _ _, (fun h => absurd h (by decide))⟩)
  · intro a' w' hF' hb hd
    have e19 : a'.tmps.getD 19 undef = .bool true := hd _ 19 (Array.mem_of_getElem? (i := 1) rfl) rfl rfl
    have e20 : a'.tmps.getD 20 undef = .agg #[.bool b4, .slice ad4 n4 c4, .slice ae4 m4 d4] := hd _ 20 (Array.mem_of_getElem? (i := 0) rfl) rfl rfl
    refine if_does (wanted_by rfl rfl e19 rfl) (Does.calls (r_call Try.func58 en58.1 en58.2 (map1 e20)) (rsgn_any _ ((((-6) : Int) : Rat) / (((-4) : Int) : Rat)) _ (hh3.below hb)) ?_)
    rintro e w'' ⟨rfl, bb⟩
    exact ⟨_, rfl, rfl, bb, (fun h => absurd h (by decide))⟩
  · intro a' w' hF' hb hd
    have e19 : a'.tmps.getD 19 undef = .bool true := hd _ 19 (Array.mem_of_getElem? (i := 1) rfl) rfl rfl
    have e21 : a'.tmps.getD 21 undef = .int .i64 (sz (Rat.num ((((-6) : Int) : Rat) / (((-4) : Int) : Rat)))) := hd _ 21 (Array.mem_of_getElem? (i := 0) rfl) rfl rfl
    exact if_does (wanted_by rfl rfl e19 rfl) (Does.vals (r_bin e21 ev_c eg_scalar (bi_int (ic_eql (c := true) (eqx (by decide +kernel))) (by simp))) ⟨rfl, Below.refl _ _, (fun h => absurd h (by decide))⟩)
  · intro a' w' hF' hb hd
    have e19 : a'.tmps.getD 19 undef = .bool true := hd _ 19 (Array.mem_of_getElem? (i := 0) rfl) rfl rfl
    have e22 : a'.tmps.getD 22 undef = .bool true := hd _ 22 (Array.mem_of_getElem? (i := 1) rfl) rfl rfl
    exact if_does (wanted_free rfl) (Does.vals (r_pick_t e19 e22) ⟨rfl, Below.refl _ _, (fun h => absurd h (by decide))⟩)
  · intro a' w' hF' hb hd
    have e23 : a'.tmps.getD 23 undef = .bool true := hd _ 23 (Array.mem_of_getElem? (i := 0) rfl) rfl rfl
    exact if_does (wanted_free rfl) (Does.vals (r_move e23) ⟨rfl, Below.refl _ _, (fun h => absurd h (by decide))⟩)
  · intro a' w' hF' hb hd
    have e24 : a'.tmps.getD 24 undef = .bool true := hd _ 24 (Array.mem_of_getElem? (i := 0) rfl) rfl rfl
    refine if_does (wanted_by rfl rfl e24 rfl) (Does.calls (r_call Try.func73 en73.1 en73.2 (map1 ev_c)) (rWhole_any ((-2)) _ (by decide) (by decide)) ?_)
    rintro e w'' ⟨v', rfl, h', bb⟩
    exact ⟨_, rfl, h', bb, (fun h => absurd h (by decide))⟩
  · intro a' w' hF' hb hd
    have e24 : a'.tmps.getD 24 undef = .bool true := hd _ 24 (Array.mem_of_getElem? (i := 0) rfl) rfl rfl
    exact if_does (wanted_by rfl rfl e24 rfl) (Does.vals (r_load (hF'.at 0 rfl) (ld_Rat (vs := [.bool b4, .slice ad4 n4 c4, .slice ae4 m4 d4]) (o1.below hb) rfl rfl)) ⟨rfl, Below.refl _ _, (fun h => absurd h (by decide))⟩)
  · intro a' w' hF' hb hd
    have e24 : a'.tmps.getD 24 undef = .bool true := hd _ 24 (Array.mem_of_getElem? (i := 3) rfl) rfl rfl
    obtain ⟨v25_0, e25, h25_1⟩ : ∃ v, a'.tmps.getD 25 undef = v ∧ Rq w' v ((((-2) : Int) : Rat)) := ⟨_, rfl, hd _ 25 (Array.mem_of_getElem? (i := 0) rfl) rfl rfl⟩
    have e26 : a'.tmps.getD 26 undef = .agg #[.bool b4, .slice ad4 n4 c4, .slice ae4 m4 d4] := hd _ 26 (Array.mem_of_getElem? (i := 1) rfl) rfl rfl
    refine if_does (wanted_by rfl rfl e24 rfl) (Does.calls (r_call Try.func68 en68.1 en68.2 (map2 e25 e26)) (rCmp_any _ _ ((((-2) : Int) : Rat)) ((((-6) : Int) : Rat) / (((-4) : Int) : Rat)) 2 _ h25_1 (hh3.below hb) ((rlim_int (limz_64 (by decide) (by decide)) (by omega)).up _ (by omega)) ((RLim.up (rlim_mk2 (limz_64 (by decide) (by decide)) (limz_64 (by decide) (by decide))) 2 (by decide)).up _ (by omega)) (by omega)) ?_)
    rintro e w'' ⟨rfl, bb⟩
    exact ⟨_, rfl, rfl, bb, (fun h => absurd h (by decide))⟩
  · intro a' w' hF' hb hd
    have e24 : a'.tmps.getD 24 undef = .bool true := hd _ 24 (Array.mem_of_getElem? (i := 1) rfl) rfl rfl
    have e27 : a'.tmps.getD 27 undef = .int .i64 (qc ((((-2) : Int) : Rat)) ((((-6) : Int) : Rat) / (((-4) : Int) : Rat))) := hd _ 27 (Array.mem_of_getElem? (i := 0) rfl) rfl rfl
    exact if_does (wanted_by rfl rfl e24 rfl) (Does.vals (r_bin e27 ev_c eg_scalar (bi_int (ic_eql (c := true) (eqx (by decide +kernel))) (by simp))) ⟨rfl, Below.refl _ _, (fun h => absurd h (by decide))⟩)
  · intro a' w' hF' hb hd
    have e24 : a'.tmps.getD 24 undef = .bool true := hd _ 24 (Array.mem_of_getElem? (i := 0) rfl) rfl rfl
    have e28 : a'.tmps.getD 28 undef = .bool true := hd _ 28 (Array.mem_of_getElem? (i := 1) rfl) rfl rfl
    exact if_does (wanted_free rfl) (Does.vals (r_pick_t e24 e28) ⟨rfl, Below.refl _ _, (fun h => absurd h (by decide))⟩)
  intro a w8 hF bb hall hne
  have e29 : a.tmps.getD 29 undef = .bool true := hall 26 29 rfl
  clear hall hne
  replace bel := below_to bel bb
  clear bb
  replace hF := hF.add e29
  clear e29
  refine E.opset (L' := [(0, .bool true), (29, .bool true), (1, .pointer (some ⟨g1, 0, none⟩)), (2, .agg #[.bool b4, .slice ad4 n4 c4, .slice ae4 m4 d4])]) hF (r_assign (hF.at 0 rfl)) rfl rfl rfl rfl fun a hF => ?_
  refine E.nil ?_
  refine wp_ret ?_
  refine bodyPost_ret (res_tmp Try.results45 (hF.at 0 rfl)) hF.dfr ?_
  exact ⟨rfl, bel⟩

end Go.Proofs.Ytjgafncpahbjkaa

/- The walk of RatMakes. -/
namespace Go.Proofs.Ytjgafncpahbjkaa
open Go.RowKit
set_option maxRecDepth 100000
set_option linter.unusedVariables false

theorem rSame_true (v1 v2 : Value) (q1 q2 : Rat) (w : World) (h1 : Rq w v1 q1) (h2 : Rq w v2 q2) (h : q1 = q2) : Calls Try.prog 70 #[v1, v2] w (BoolPost w true) := by
  have := rSame_any v1 v2 q1 q2 w h1 h2
  rw [decide_eq_true h] at this
  exact this
theorem rSame_false (v1 v2 : Value) (q1 q2 : Rat) (w : World) (h1 : Rq w v1 q1) (h2 : Rq w v2 q2) (h : q1 ≠ q2) : Calls Try.prog 70 #[v1, v2] w (BoolPost w false) := by
  have := rSame_any v1 v2 q1 q2 w h1 h2
  rw [decide_eq_false h] at this
  exact this
theorem bits_pos (q : Rat) : (0 : Int) < (dl 2 q.den : Nat) := by have := dl_pos (by decide : 2 ≤ 2) (Rat.den_pos q); omega
set_option maxHeartbeats 8000000 in
theorem ratMakes_walk (nega1 : Bool) (aa1 : Option Addr) (na1 ca1 : Nat) (xa1 : List Nat) (negb1 : Bool) (ab1 : Option Addr) (nb1 cb1 : Nat) (xb1 : List Nat) (w : World) (ia1 : InX w aa1 na1 ca1 xa1) (ib1 : InX w ab1 nb1 cb1 xb1) :
    Calls Try.prog 10 #[.agg #[.bool nega1, .slice aa1 na1 ca1, .bool negb1, .slice ab1 nb1 cb1]] w (TruePost w) := by
  have oka1 := ia1.ok
  have okb1 := ib1.ok
  have bel : Below w.heap.size w w := Below.refl _ _
  refine E.enter (nt := 57) (L := [(0, .agg #[.bool nega1, .slice aa1 na1 ca1, .bool negb1, .slice ab1 nb1 cb1])]) Try.func10 rfl rfl rfl (args_cons (i := 0) rfl args_nil) ?_
  intro a hF
  refine wp_seq ?_
  refine E.seq ?_
  obtain ⟨g1, w1, ge1, hr, bb, o1⟩ := own_box (P := Try.prog) (w := w) (cs := [.bool nega1, .slice aa1 na1 ca1, .bool negb1, .slice ab1 nb1 cb1]) (v := .agg #[.bool nega1, .slice aa1 na1 ca1, .bool negb1, .slice ab1 nb1 cb1]) 74 rfl (niB (niS (niB (niS ni0))))
  replace ge1 : w.heap.size ≤ g1 := by rw [← ge1]; exact bel.size
  refine E.opv hF (r_box (hF.at 0 rfl) hr) rfl rfl rfl rfl fun a hF => ?_
  clear hr
  replace ia1 := ia1.below bb
  replace ib1 := ib1.below bb
  replace bel := below_to bel bb
  clear bb
  refine E.opv hF (r_assign ev_c) rfl rfl rfl rfl fun a hF => ?_
  refine E.nil ?_
  refine wp_seq ?_
  refine wp_seq ?_
  refine E.seq ?_
  refine E.call hF (r_call Try.func45 en45.1 en45.2 map0) (awake5_any _) rfl rfl rfl rfl ?_
  rintro e w2 ⟨rfl, bb⟩
  refine ⟨_, rfl, ?_⟩
  intro a hF
  replace ia1 := ia1.below bb
  replace ib1 := ib1.below bb
  replace o1 := o1.below bb
  replace bel := below_to bel bb
  clear bb
  refine E.opv hF (r_un (hF.at 0 rfl) (bn_not _ false rfl)) rfl rfl rfl rfl fun a hF => ?_
  refine E.nil ?_
  refine wp_cond_false (hF.at 0 rfl) ?_
  refine wp_skip ?_
  refine E.norm ?_
  refine wp_seq ?_
  refine E.drawn 6 mixed hF [8, 9, 10, 11, 3, 4] [(fun _ v => v = .agg #[.bool nega1, .slice aa1 na1 ca1, .bool negb1, .slice ab1 nb1 cb1]), (fun w v => Rq w v (((rawZ nega1 xa1 6 : Int) : Rat) / ((rawZ negb1 xb1 6 : Int) : Rat))), (fun _ v => v = .agg #[.bool nega1, .slice aa1 na1 ca1, .bool negb1, .slice ab1 nb1 cb1]), (fun w v => Rr w v (((rawZ nega1 xa1 6 : Int) : Rat) / ((rawZ negb1 xb1 6 : Int) : Rat)) (6)), (fun w v => ∃ g, v = .pointer (some ⟨g, 0, none⟩) ∧ w2.heap.size ≤ g ∧ Own w g [.bool false, .slice none 0 0, .slice none 0 0]), (fun w v => ∃ g, v = .pointer (some ⟨g, 0, none⟩) ∧ w2.heap.size ≤ g ∧ Own w g [.bool false, .slice none 0 0, .slice none 0 0])] [4, 5] (by decide +kernel) (by decide +kernel) rfl rfl rfl ⟨(Mb.eq _), (fun _ _ _ h hb => h.below hb), (Mb.eq _), (fun _ _ _ h hb => h.below hb), (fun _ _ _ ⟨g, e, l, o⟩ hb => ⟨g, e, l, o.below hb⟩), (fun _ _ _ ⟨g, e, l, o⟩ hb => ⟨g, e, l, o.below hb⟩), trivial⟩ ⟨fun _ _ ⟨g, e, _, o⟩ => ⟨g, e, o.lt⟩, ⟨fun _ _ ⟨g, e, _, o⟩ => ⟨g, e, o.lt⟩, trivial⟩⟩ ⟨?_, ?_, ?_, ?_, ?_, ?_, trivial⟩ ?_
  · intro a' w' hF' hb hd
    exact if_does (wanted_free rfl) (Does.vals (r_load (hF'.at 3 rfl) (ld_Raw5 (vs := [.bool nega1, .slice aa1 na1 ca1, .bool negb1, .slice ab1 nb1 cb1]) (o1.below hb) rfl rfl)) ⟨rfl, Below.refl _ _, (fun h => absurd h (by decide))⟩)
  · intro a' w' hF' hb hd
    have e8 : a'.tmps.getD 8 undef = .agg #[.bool nega1, .slice aa1 na1 ca1, .bool negb1, .slice ab1 nb1 cb1] := hd _ 8 (Array.mem_of_getElem? (i := 0) rfl) rfl rfl
    refine if_does (wanted_free rfl) (Does.calls (r_call Try.func46 en46.1 en46.2 (map2 e8 ev_c)) (Own5_any nega1 aa1 na1 ca1 xa1 negb1 ab1 nb1 cb1 xb1 6 _ (ia1.below hb) (ib1.below hb) (by omega)) ?_)
    rintro e w'' ⟨v', rfl, h', bb⟩
    exact ⟨_, rfl, h', bb, (fun h => absurd h (by decide))⟩
  · intro a' w' hF' hb hd
    exact if_does (wanted_free rfl) (Does.vals (r_load (hF'.at 3 rfl) (ld_Raw5 (vs := [.bool nega1, .slice aa1 na1 ca1, .bool negb1, .slice ab1 nb1 cb1]) (o1.below hb) rfl rfl)) ⟨rfl, Below.refl _ _, (fun h => absurd h (by decide))⟩)
  · intro a' w' hF' hb hd
    have e10 : a'.tmps.getD 10 undef = .agg #[.bool nega1, .slice aa1 na1 ca1, .bool negb1, .slice ab1 nb1 cb1] := hd _ 10 (Array.mem_of_getElem? (i := 0) rfl) rfl rfl
    refine if_does (wanted_free rfl) (Does.calls (r_call Try.func47 en47.1 en47.2 (map2 e10 ev_c)) (Told5_any nega1 aa1 na1 ca1 xa1 negb1 ab1 nb1 cb1 xb1 6 _ (ia1.below hb) (ib1.below hb) (by omega) (by omega)) ?_)
    rintro e w'' ⟨v', rfl, h', bb⟩
    exact ⟨_, rfl, h', bb, (fun h => absurd h (by decide))⟩
  · intro a' w' hF' hb hd
    obtain ⟨g, w2, ge, hr, bb, on⟩ := own_alloc (P := Try.prog) (w := w') (cs := [.bool false, .slice none 0 0, .slice none 0 0]) 76 ze_Rat rfl (niB (niS (niS ni0)))
    subst ge
    exact if_does (wanted_free rfl) (Does.vals (r_alloc hr) ⟨⟨_, rfl, hb.size, on⟩, bb, fun _ => rfl⟩)
  · intro a' w' hF' hb hd
    obtain ⟨g, w2, ge, hr, bb, on⟩ := own_alloc (P := Try.prog) (w := w') (cs := [.bool false, .slice none 0 0, .slice none 0 0]) 79 ze_RRat rfl (niB (niS (niS ni0)))
    subst ge
    exact if_does (wanted_free rfl) (Does.vals (r_alloc hr) ⟨⟨_, rfl, hb.size, on⟩, bb, fun _ => rfl⟩)
  intro a w3 hF bb hall hne
  obtain ⟨vv4, e9, hh5⟩ : ∃ v, a.tmps.getD 9 undef = v ∧ Rq w3 v (((rawZ nega1 xa1 6 : Int) : Rat) / ((rawZ negb1 xb1 6 : Int) : Rat)) := ⟨_, rfl, hall 1 9 rfl⟩
  obtain ⟨vv6, e11, hh7⟩ : ∃ v, a.tmps.getD 11 undef = v ∧ Rr w3 v (((rawZ nega1 xa1 6 : Int) : Rat) / ((rawZ negb1 xb1 6 : Int) : Rat)) (6) := ⟨_, rfl, hall 3 11 rfl⟩
  obtain ⟨g3, e3, ge3, o3⟩ : ∃ g, a.tmps.getD 3 undef = .pointer (some ⟨g, 0, none⟩) ∧ w2.heap.size ≤ g ∧ Own w3 g [.bool false, .slice none 0 0, .slice none 0 0] := hall 4 3 rfl
  obtain ⟨g4, e4, ge4, o4⟩ : ∃ g, a.tmps.getD 4 undef = .pointer (some ⟨g, 0, none⟩) ∧ w2.heap.size ≤ g ∧ Own w3 g [.bool false, .slice none 0 0, .slice none 0 0] := hall 5 4 rfl
  have ne3_4 : g3 ≠ g4 := by intro e; exact hne 4 5 3 4 rfl rfl (by decide) rfl rfl (by rw [e3, e4, e])
  replace ge3 : w.heap.size ≤ g3 := Nat.le_trans bel.size ge3
  replace ge4 : w.heap.size ≤ g4 := Nat.le_trans bel.size ge4
  clear hall hne
  replace bel := below_to bel bb
  clear bb
  obtain ⟨b8, ad8, n8, c8, ae8, m8, d8, rfl, hn8, hd8⟩ := Rq.shape hh5
  have hf9 := Wc.abs hn8
  replace hF := hF.add e9
  clear e9
  obtain ⟨b10, ad10, n10, c10, ae10, m10, d10, z10, D10, rfl, hn10, hd10, hD10, hq10, lz10, lD10⟩ := Rr.shape hh7
  have ha10 := hn10.abs
  replace hF := hF.add e11
  clear e11
  replace hF := hF.add e3
  clear e3
  replace hF := hF.add e4
  clear e4
  obtain ⟨w11, hr, tu, on⟩ := st_Rat (vs := [.bool b8, .slice ad8 n8 c8, .slice ae8 m8 d8]) o3 rfl rfl (ocB (ocS (ocS oc0))) (niB (niS (niS ni0))) (o := 0) rfl
  have kp := tu.keep o3
  refine E.st hF (r_store (hF.at 1 rfl) (hF.at 3 rfl) (hr _ rfl)) rfl rfl fun a hF => ?_
  clear hr
  replace hh7 := hh7.keep kp
  replace hn10 := hn10.keep kp
  replace ha10 := ha10.keep kp
  replace hd10 := hd10.keep kp
  replace hh5 := hh5.keep kp
  replace hn8 := hn8.keep kp
  replace hf9 := hf9.keep kp
  replace hd8 := hd8.keep kp
  replace o4 := tu.own o4 (Ne.symm ne3_4)
  replace bel := tu.below bel ge3
  clear tu kp
  replace o3 := on
  clear on
  obtain ⟨w12, hr, tu, on⟩ := st_RRat (vs := [.bool b10, .slice ad10 n10 c10, .slice ae10 m10 d10]) o4 rfl rfl (ocB (ocS (ocS oc0))) (niB (niS (niS ni0))) (o := 0) rfl
  have kp := tu.keep o4
  refine E.st hF (r_store (hF.at 0 rfl) (hF.at 2 rfl) (hr _ rfl)) rfl rfl fun a hF => ?_
  clear hr
  replace hf9 := hf9.keep kp
  replace hd8 := hd8.keep kp
  replace hh5 := hh5.keep kp
  replace hn8 := hn8.keep kp
  replace hh7 := hh7.keep kp
  replace hn10 := hn10.keep kp
  replace ha10 := ha10.keep kp
  replace hd10 := hd10.keep kp
  replace o3 := tu.own o3 ne3_4
  replace bel := tu.below bel ge4
  clear tu kp
  replace o4 := on
  clear on
  refine E.nil ?_
  refine wp_seq ?_
  refine E.drawn 7 mixed hF [12, 13, 14, 15, 16, 17, 5] [(fun _ v => v = .agg #[.bool b8, .slice ad8 n8 c8, .slice ae8 m8 d8]), (fun w v => Wc w v (Rat.num (((rawZ nega1 xa1 6 : Int) : Rat) / ((rawZ negb1 xb1 6 : Int) : Rat)))), (fun w v => Dg w .u32 B32 v (Int.natAbs (Rat.num (((rawZ nega1 xa1 6 : Int) : Rat) / ((rawZ negb1 xb1 6 : Int) : Rat))))), (fun _ v => v = .agg #[.bool b8, .slice ad8 n8 c8, .slice ae8 m8 d8]), (fun w v => Dg w .u32 B32 v (Rat.den (((rawZ nega1 xa1 6 : Int) : Rat) / ((rawZ negb1 xb1 6 : Int) : Rat)))), (fun w v => Dg w .u32 B32 v (Nat.gcd (Int.natAbs (Rat.num (((rawZ nega1 xa1 6 : Int) : Rat) / ((rawZ negb1 xb1 6 : Int) : Rat)))) (Rat.den (((rawZ nega1 xa1 6 : Int) : Rat) / ((rawZ negb1 xb1 6 : Int) : Rat))))), (fun w v => Dg w .u32 B32 v (Nat.gcd (Int.natAbs (Rat.num (((rawZ nega1 xa1 6 : Int) : Rat) / ((rawZ negb1 xb1 6 : Int) : Rat)))) (Rat.den (((rawZ nega1 xa1 6 : Int) : Rat) / ((rawZ negb1 xb1 6 : Int) : Rat)))))] [] (by decide +kernel) (by decide +kernel) rfl rfl rfl ⟨(Mb.eq _), (fun _ _ _ h hb => h.below hb), (fun _ _ _ h hb => h.below hb), (Mb.eq _), (fun _ _ _ h hb => h.below hb), (fun _ _ _ h hb => h.below hb), (fun _ _ _ h hb => h.below hb), trivial⟩ trivial ⟨?_, ?_, ?_, ?_, ?_, ?_, ?_, trivial⟩ ?_
  · intro a' w' hF' hb hd
    exact if_does (wanted_free rfl) (Does.vals (r_load (hF'.at 1 rfl) (ld_Rat (vs := [.bool b8, .slice ad8 n8 c8, .slice ae8 m8 d8]) (o3.below hb) rfl rfl)) ⟨rfl, Below.refl _ _, (fun h => absurd h (by decide))⟩)
  · intro a' w' hF' hb hd
    have e12 : a'.tmps.getD 12 undef = .agg #[.bool b8, .slice ad8 n8 c8, .slice ae8 m8 d8] := hd _ 12 (Array.mem_of_getElem? (i := 0) rfl) rfl rfl
    refine if_does (wanted_free rfl) (Does.calls (r_call Try.func49 en49.1 en49.2 (map1 e12)) (rnum_any _ (((rawZ nega1 xa1 6 : Int) : Rat) / ((rawZ negb1 xb1 6 : Int) : Rat)) _ (hh5.below hb)) ?_)
    rintro e w'' ⟨v', rfl, h', bb⟩
    exact ⟨_, rfl, h', bb, (fun h => absurd h (by decide))⟩
  · intro a' w' hF' hb hd
    obtain ⟨v13_0, e13, h13_1⟩ : ∃ v, a'.tmps.getD 13 undef = v ∧ Wc w' v (Rat.num (((rawZ nega1 xa1 6 : Int) : Rat) / ((rawZ negb1 xb1 6 : Int) : Rat))) := ⟨_, rfl, hd _ 13 (Array.mem_of_getElem? (i := 0) rfl) rfl rfl⟩
    obtain ⟨ad13, n13, c13, rfl, _⟩ := Wc.shape h13_1
    have hf14 := Wc.abs h13_1
    exact if_does (wanted_free rfl) (Does.vals (r_fieldv e13 (fv_Int_1 _ _ _ _ _)) ⟨hf14, Below.refl _ _, (fun h => absurd h (by decide))⟩)
  · intro a' w' hF' hb hd
    exact if_does (wanted_free rfl) (Does.vals (r_load (hF'.at 1 rfl) (ld_Rat (vs := [.bool b8, .slice ad8 n8 c8, .slice ae8 m8 d8]) (o3.below hb) rfl rfl)) ⟨rfl, Below.refl _ _, (fun h => absurd h (by decide))⟩)
  · intro a' w' hF' hb hd
    have e15 : a'.tmps.getD 15 undef = .agg #[.bool b8, .slice ad8 n8 c8, .slice ae8 m8 d8] := hd _ 15 (Array.mem_of_getElem? (i := 0) rfl) rfl rfl
    refine if_does (wanted_free rfl) (Does.calls (r_call Try.func50 en50.1 en50.2 (map1 e15)) (rden_any _ (((rawZ nega1 xa1 6 : Int) : Rat) / ((rawZ negb1 xb1 6 : Int) : Rat)) _ (hh5.below hb)) ?_)
    rintro e w'' ⟨v', rfl, h', bb⟩
    exact ⟨_, rfl, h', bb, (fun h => absurd h (by decide))⟩
  · intro a' w' hF' hb hd
    obtain ⟨v14, e14, h14⟩ : ∃ v, a'.tmps.getD 14 undef = v ∧ Dg w' .u32 B32 v (Int.natAbs (Rat.num (((rawZ nega1 xa1 6 : Int) : Rat) / ((rawZ negb1 xb1 6 : Int) : Rat)))) := ⟨_, rfl, hd _ 14 (Array.mem_of_getElem? (i := 0) rfl) rfl rfl⟩
    obtain ⟨v16_0, e16, h16_1⟩ : ∃ v, a'.tmps.getD 16 undef = v ∧ Dg w' .u32 B32 v (Rat.den (((rawZ nega1 xa1 6 : Int) : Rat) / ((rawZ negb1 xb1 6 : Int) : Rat))) := ⟨_, rfl, hd _ 16 (Array.mem_of_getElem? (i := 1) rfl) rfl rfl⟩
    refine if_does (wanted_free rfl) (Does.calls (r_call Try.func48 en48.1 en48.2 (map2 e14 e16)) (gcd_any _ _ (Int.natAbs (Rat.num (((rawZ nega1 xa1 6 : Int) : Rat) / ((rawZ negb1 xb1 6 : Int) : Rat)))) (Rat.den (((rawZ nega1 xa1 6 : Int) : Rat) / ((rawZ negb1 xb1 6 : Int) : Rat))) _ (Dg.nt h14) (Dg.nt h16_1)) ?_)
    rintro e w'' ⟨v', rfl, h', bb⟩
    exact ⟨_, rfl, h', bb, (fun h => absurd h (by decide))⟩
  · intro a' w' hF' hb hd
    obtain ⟨v17_0, e17, h17_1⟩ : ∃ v, a'.tmps.getD 17 undef = v ∧ Dg w' .u32 B32 v (Nat.gcd (Int.natAbs (Rat.num (((rawZ nega1 xa1 6 : Int) : Rat) / ((rawZ negb1 xb1 6 : Int) : Rat)))) (Rat.den (((rawZ nega1 xa1 6 : Int) : Rat) / ((rawZ negb1 xb1 6 : Int) : Rat)))) := ⟨_, rfl, hd _ 17 (Array.mem_of_getElem? (i := 0) rfl) rfl rfl⟩
    exact if_does (wanted_free rfl) (Does.vals (r_assign e17) ⟨h17_1, Below.refl _ _, (fun h => absurd h (by decide))⟩)
  intro a w15 hF bb hall hne
  obtain ⟨vv16, e5, hh17⟩ : ∃ v, a.tmps.getD 5 undef = v ∧ Dg w15 .u32 B32 v (Nat.gcd (Int.natAbs (Rat.num (((rawZ nega1 xa1 6 : Int) : Rat) / ((rawZ negb1 xb1 6 : Int) : Rat)))) (Rat.den (((rawZ nega1 xa1 6 : Int) : Rat) / ((rawZ negb1 xb1 6 : Int) : Rat)))) := ⟨_, rfl, hall 6 5 rfl⟩
  clear hall hne
  replace hf9 := hf9.below bb
  replace hd8 := hd8.below bb
  replace hh5 := hh5.below bb
  replace hn8 := hn8.below bb
  replace ha10 := ha10.below bb
  replace hd10 := hd10.below bb
  replace hh7 := hh7.below bb
  replace hn10 := hn10.below bb
  replace o3 := o3.below bb
  replace o4 := o4.below bb
  replace bel := below_to bel bb
  clear bb
  obtain ⟨ad18, n18, c18, rfl⟩ := Dg.form hh17
  replace hF := hF.add e5
  clear e5
  refine E.nil ?_
  refine wp_seq ?_
  refine E.drawn 39 mixed hF [18, 19, 20, 21, 22, 23, 24, 25, 26, 27, 28, 29, 30, 31, 32, 33, 34, 35, 36, 37, 38, 39, 40, 41, 42, 43, 44, 45, 46, 47, 48, 49, 50, 51, 52, 53, 54, 55, 56] [(fun _ v => v = .agg #[.bool b8, .slice ad8 n8 c8, .slice ae8 m8 d8]), (fun _ v => v = .agg #[.bool b10, .slice ad10 n10 c10, .slice ae10 m10 d10]), (fun _ v => v = .int .i64 0), (fun _ v => v = .bool true), (fun _ v => v = .bool true), (fun _ v => v = .slice ad18 n18 c18), (fun w v => Dg w .u32 B32 v (1)), (fun _ v => v = .int .i64 (c3 (Nat.gcd (Int.natAbs (Rat.num (((rawZ nega1 xa1 6 : Int) : Rat) / ((rawZ negb1 xb1 6 : Int) : Rat)))) (Rat.den (((rawZ nega1 xa1 6 : Int) : Rat) / ((rawZ negb1 xb1 6 : Int) : Rat)))) (1))), (fun _ v => v = .bool true), (fun _ v => v = .bool true), (fun _ v => v = .bool true), (fun _ v => v = .agg #[.bool b8, .slice ad8 n8 c8, .slice ae8 m8 d8]), (fun w v => Dg w .u32 B32 v (Rat.den (((rawZ nega1 xa1 6 : Int) : Rat) / ((rawZ negb1 xb1 6 : Int) : Rat)))), (fun _ v => v = .int .i64 (dl 2 (Rat.den (((rawZ nega1 xa1 6 : Int) : Rat) / ((rawZ negb1 xb1 6 : Int) : Rat))) : Nat)), (fun _ v => v = .bool true), (fun _ v => v = .bool true), (fun _ v => v = .bool true), (fun _ v => v = .agg #[.bool b8, .slice ad8 n8 c8, .slice ae8 m8 d8]), (fun w v => Rq w v (-(((rawZ nega1 xa1 6 : Int) : Rat) / ((rawZ negb1 xb1 6 : Int) : Rat)))), (fun _ v => v = .agg #[.bool b10, .slice ad10 n10 c10, .slice ae10 m10 d10]), (fun w v => Rr w v (-(((rawZ nega1 xa1 6 : Int) : Rat) / ((rawZ negb1 xb1 6 : Int) : Rat))) (6)), (fun _ v => v = .int .i64 0), (fun _ v => v = .bool true), (fun _ v => v = .bool true), (fun _ v => v = .bool true), (fun _ v => v = .agg #[.bool b8, .slice ad8 n8 c8, .slice ae8 m8 d8]), (fun w v => Rq w v (Rat.abs (((rawZ nega1 xa1 6 : Int) : Rat) / ((rawZ negb1 xb1 6 : Int) : Rat)))), (fun _ v => v = .agg #[.bool b10, .slice ad10 n10 c10, .slice ae10 m10 d10]), (fun w v => Rr w v (Rat.abs (((rawZ nega1 xa1 6 : Int) : Rat) / ((rawZ negb1 xb1 6 : Int) : Rat))) (6)), (fun _ v => v = .int .i64 0), (fun _ v => v = .bool true), (fun _ v => v = .bool true), (fun _ v => v = .bool true), (fun _ v => v = .agg #[.bool b8, .slice ad8 n8 c8, .slice ae8 m8 d8]), (fun _ v => v = .int .i64 (sz (Rat.num (((rawZ nega1 xa1 6 : Int) : Rat) / ((rawZ negb1 xb1 6 : Int) : Rat))))), (fun _ v => v = .agg #[.bool b10, .slice ad10 n10 c10, .slice ae10 m10 d10]), (fun _ v => v = .int .i64 (sz (Rat.num (((rawZ nega1 xa1 6 : Int) : Rat) / ((rawZ negb1 xb1 6 : Int) : Rat))))), (fun _ v => v = .bool true), (fun _ v => v = .bool true)] [] (by decide +kernel) (by decide +kernel) rfl rfl rfl ⟨(Mb.eq _), (Mb.eq _), (Mb.eq _), (Mb.eq _), (Mb.eq _), (Mb.eq _), (fun _ _ _ h hb => h.below hb), (Mb.eq _), (Mb.eq _), (Mb.eq _), (Mb.eq _), (Mb.eq _), (fun _ _ _ h hb => h.below hb), (Mb.eq _), (Mb.eq _), (Mb.eq _), (Mb.eq _), (Mb.eq _), (fun _ _ _ h hb => h.below hb), (Mb.eq _), (fun _ _ _ h hb => h.below hb), (Mb.eq _), (Mb.eq _), (Mb.eq _), (Mb.eq _), (Mb.eq _), (fun _ _ _ h hb => h.below hb), (Mb.eq _), (fun _ _ _ h hb => h.below hb), (Mb.eq _), (Mb.eq _), (Mb.eq _), (Mb.eq _), (Mb.eq _), (Mb.eq _), (Mb.eq _), (Mb.eq _), (Mb.eq _), (Mb.eq _), trivial⟩ trivial ⟨?_, ?_, ?_, ?_, ?_, ?_, ?_, ?_, ?_, ?_, ?_, ?_, ?_, ?_, ?_, ?_, ?_, ?_, ?_, ?_, ?_, ?_, ?_, ?_, ?_, ?_, ?_, ?_, ?_, ?_, ?_, ?_, ?_, ?_, ?_, ?_, ?_, ?_, ?_, trivial⟩ ?_
  · intro a' w' hF' hb hd
    exact if_does (wanted_free rfl) (Does.vals (r_load (hF'.at 2 rfl) (ld_Rat (vs := [.bool b8, .slice ad8 n8 c8, .slice ae8 m8 d8]) (o3.below hb) rfl rfl)) ⟨rfl, Below.refl _ _, (fun h => absurd h (by decide))⟩)
  · intro a' w' hF' hb hd
    exact if_does (wanted_free rfl) (Does.vals (r_load (hF'.at 1 rfl) (ld_RRat (vs := [.bool b10, .slice ad10 n10 c10, .slice ae10 m10 d10]) (o4.below hb) rfl rfl)) ⟨rfl, Below.refl _ _, (fun h => absurd h (by decide))⟩)
  · intro a' w' hF' hb hd
    have e18 : a'.tmps.getD 18 undef = .agg #[.bool b8, .slice ad8 n8 c8, .slice ae8 m8 d8] := hd _ 18 (Array.mem_of_getElem? (i := 0) rfl) rfl rfl
    have e19 : a'.tmps.getD 19 undef = .agg #[.bool b10, .slice ad10 n10 c10, .slice ae10 m10 d10] := hd _ 19 (Array.mem_of_getElem? (i := 1) rfl) rfl rfl
    refine if_does (wanted_free rfl) (Does.calls (r_call Try.func51 en51.1 en51.2 (map2 e18 e19)) (Is5_any _ _ (((rawZ nega1 xa1 6 : Int) : Rat) / ((rawZ negb1 xb1 6 : Int) : Rat)) (((rawZ nega1 xa1 6 : Int) : Rat) / ((rawZ negb1 xb1 6 : Int) : Rat)) 6 6 _ (hh5.below hb) (hh7.below hb) (own5_lim nega1 negb1 oka1 okb1 6 (by decide)) rfl (by omega) (by omega)) ?_)
    rintro e w'' ⟨rfl, bb⟩
    exact ⟨_, rfl, rfl, bb, (fun h => absurd h (by decide))⟩
  · intro a' w' hF' hb hd
    have e20 : a'.tmps.getD 20 undef = .int .i64 0 := hd _ 20 (Array.mem_of_getElem? (i := 0) rfl) rfl rfl
    exact if_does (wanted_free rfl) (Does.vals (r_bin e20 ev_c eg_scalar (bi_int (ic_eql (c := true) (by simp)) (by simp))) ⟨rfl, Below.refl _ _, (fun h => absurd h (by decide))⟩)
  · intro a' w' hF' hb hd
    have e21 : a'.tmps.getD 21 undef = .bool true := hd _ 21 (Array.mem_of_getElem? (i := 0) rfl) rfl rfl
    exact if_does (wanted_free rfl) (Does.vals (r_move e21) ⟨rfl, Below.refl _ _, (fun h => absurd h (by decide))⟩)
  · intro a' w' hF' hb hd
    have e22 : a'.tmps.getD 22 undef = .bool true := hd _ 22 (Array.mem_of_getElem? (i := 0) rfl) rfl rfl
    exact if_does (wanted_by rfl rfl e22 rfl) (Does.vals (r_move (hF'.at 0 rfl)) ⟨rfl, Below.refl _ _, (fun h => absurd h (by decide))⟩)
  · intro a' w' hF' hb hd
    have e22 : a'.tmps.getD 22 undef = .bool true := hd _ 22 (Array.mem_of_getElem? (i := 0) rfl) rfl rfl
    refine if_does (wanted_by rfl rfl e22 rfl) (Does.calls (r_call Try.func52 en52.1 en52.2 (map1 ev_c)) (of_any 1 _ (by decide)) ?_)
    rintro e w'' ⟨v', rfl, h', bb⟩
    exact ⟨_, rfl, h', bb, (fun h => absurd h (by decide))⟩
  · intro a' w' hF' hb hd
    have e22 : a'.tmps.getD 22 undef = .bool true := hd _ 22 (Array.mem_of_getElem? (i := 3) rfl) rfl rfl
    have e23 : a'.tmps.getD 23 undef = .slice ad18 n18 c18 := hd _ 23 (Array.mem_of_getElem? (i := 0) rfl) rfl rfl
    obtain ⟨v24_0, e24, h24_1⟩ : ∃ v, a'.tmps.getD 24 undef = v ∧ Dg w' .u32 B32 v (1) := ⟨_, rfl, hd _ 24 (Array.mem_of_getElem? (i := 1) rfl) rfl rfl⟩
    refine if_does (wanted_by rfl rfl e22 rfl) (Does.calls (r_call Try.func33 en33.1 en33.2 (map2 e23 e24)) (cmp_any _ _ (Nat.gcd (Int.natAbs (Rat.num (((rawZ nega1 xa1 6 : Int) : Rat) / ((rawZ negb1 xb1 6 : Int) : Rat)))) (Rat.den (((rawZ nega1 xa1 6 : Int) : Rat) / ((rawZ negb1 xb1 6 : Int) : Rat)))) 1 _ (Dg.nt (hh17.below hb)) (Dg.nt h24_1)) ?_)
    intro e w'' hh
    obtain ⟨rfl, bb, hsz⟩ := quiet_below hh
    exact ⟨_, rfl, rfl, bb, (fun h => absurd h (by decide))⟩
  · intro a' w' hF' hb hd
    have e22 : a'.tmps.getD 22 undef = .bool true := hd _ 22 (Array.mem_of_getElem? (i := 1) rfl) rfl rfl
    have e25 : a'.tmps.getD 25 undef = .int .i64 (c3 (Nat.gcd (Int.natAbs (Rat.num (((rawZ nega1 xa1 6 : Int) : Rat) / ((rawZ negb1 xb1 6 : Int) : Rat)))) (Rat.den (((rawZ nega1 xa1 6 : Int) : Rat) / ((rawZ negb1 xb1 6 : Int) : Rat)))) (1)) := hd _ 25 (Array.mem_of_getElem? (i := 0) rfl) rfl rfl
    exact if_does (wanted_by rfl rfl e22 rfl) (Does.vals (r_bin e25 ev_c eg_scalar (bi_int (ic_eql (c := true) (eqx (c3_eqx (Rat.reduced _)))) (by simp))) ⟨rfl, Below.refl _ _, (fun h => absurd h (by decide))⟩)
  · intro a' w' hF' hb hd
    have e22 : a'.tmps.getD 22 undef = .bool true := hd _ 22 (Array.mem_of_getElem? (i := 0) rfl) rfl rfl
    have e26 : a'.tmps.getD 26 undef = .bool true := hd _ 26 (Array.mem_of_getElem? (i := 1) rfl) rfl rfl
    exact if_does (wanted_free rfl) (Does.vals (r_pick_t e22 e26) ⟨rfl, Below.refl _ _, (fun h => absurd h (by decide))⟩)
  · intro a' w' hF' hb hd
    have e27 : a'.tmps.getD 27 undef = .bool true := hd _ 27 (Array.mem_of_getElem? (i := 0) rfl) rfl rfl
    exact if_does (wanted_free rfl) (Does.vals (r_move e27) ⟨rfl, Below.refl _ _, (fun h => absurd h (by decide))⟩)
  · intro a' w' hF' hb hd
    have e28 : a'.tmps.getD 28 undef = .bool true := hd _ 28 (Array.mem_of_getElem? (i := 0) rfl) rfl rfl
    exact if_does (wanted_by rfl rfl e28 rfl) (Does.vals (r_load (hF'.at 2 rfl) (ld_Rat (vs := [.bool b8, .slice ad8 n8 c8, .slice ae8 m8 d8]) (o3.below hb) rfl rfl)) ⟨rfl, Below.refl _ _, (fun h => absurd h (by decide))⟩)
  · intro a' w' hF' hb hd
    have e28 : a'.tmps.getD 28 undef = .bool true := hd _ 28 (Array.mem_of_getElem? (i := 1) rfl) rfl rfl
    have e29 : a'.tmps.getD 29 undef = .agg #[.bool b8, .slice ad8 n8 c8, .slice ae8 m8 d8] := hd _ 29 (Array.mem_of_getElem? (i := 0) rfl) rfl rfl
    refine if_does (wanted_by rfl rfl e28 rfl) (Does.calls (r_call Try.func50 en50.1 en50.2 (map1 e29)) (rden_any _ (((rawZ nega1 xa1 6 : Int) : Rat) / ((rawZ negb1 xb1 6 : Int) : Rat)) _ (hh5.below hb)) ?_)
    rintro e w'' ⟨v', rfl, h', bb⟩
    exact ⟨_, rfl, h', bb, (fun h => absurd h (by decide))⟩
  · intro a' w' hF' hb hd
    have e28 : a'.tmps.getD 28 undef = .bool true := hd _ 28 (Array.mem_of_getElem? (i := 2) rfl) rfl rfl
    obtain ⟨v30_0, e30, h30_1⟩ : ∃ v, a'.tmps.getD 30 undef = v ∧ Dg w' .u32 B32 v (Rat.den (((rawZ nega1 xa1 6 : Int) : Rat) / ((rawZ negb1 xb1 6 : Int) : Rat))) := ⟨_, rfl, hd _ 30 (Array.mem_of_getElem? (i := 0) rfl) rfl rfl⟩
    refine if_does (wanted_by rfl rfl e28 rfl) (Does.calls (r_call Try.func53 en53.1 en53.2 (map1 e30)) (bits_any _ (Rat.den (((rawZ nega1 xa1 6 : Int) : Rat) / ((rawZ negb1 xb1 6 : Int) : Rat))) _ (Dg.nt h30_1)) ?_)
    rintro e w'' ⟨rfl, hw⟩
    exact ⟨_, rfl, rfl, by rw [hw]; exact Below.refl _ _, (fun h => absurd h (by decide))⟩
  · intro a' w' hF' hb hd
    have e28 : a'.tmps.getD 28 undef = .bool true := hd _ 28 (Array.mem_of_getElem? (i := 1) rfl) rfl rfl
    have e31 : a'.tmps.getD 31 undef = .int .i64 (dl 2 (Rat.den (((rawZ nega1 xa1 6 : Int) : Rat) / ((rawZ negb1 xb1 6 : Int) : Rat))) : Nat) := hd _ 31 (Array.mem_of_getElem? (i := 0) rfl) rfl rfl
    exact if_does (wanted_by rfl rfl e28 rfl) (Does.vals (r_bin e31 ev_c eg_scalar (bi_int (ic_gtr (c := true) (dec_t (bits_pos _))) (by simp))) ⟨rfl, Below.refl _ _, (fun h => absurd h (by decide))⟩)
  · intro a' w' hF' hb hd
    have e28 : a'.tmps.getD 28 undef = .bool true := hd _ 28 (Array.mem_of_getElem? (i := 0) rfl) rfl rfl
    have e32 : a'.tmps.getD 32 undef = .bool true := hd _ 32 (Array.mem_of_getElem? (i := 1) rfl) rfl rfl
    exact if_does (wanted_free rfl) (Does.vals (r_pick_t e28 e32) ⟨rfl, Below.refl _ _, (fun h => absurd h (by decide))⟩)
  · intro a' w' hF' hb hd
    have e33 : a'.tmps.getD 33 undef = .bool true := hd _ 33 (Array.mem_of_getElem? (i := 0) rfl) rfl rfl
    exact if_does (wanted_free rfl) (Does.vals (r_move e33) ⟨rfl, Below.refl _ _, (fun h => absurd h (by decide))⟩)
  · intro a' w' hF' hb hd
    have e34 : a'.tmps.getD 34 undef = .bool true := hd _ 34 (Array.mem_of_getElem? (i := 0) rfl) rfl rfl
    exact if_does (wanted_by rfl rfl e34 rfl) (Does.vals (r_load (hF'.at 2 rfl) (ld_Rat (vs := [.bool b8, .slice ad8 n8 c8, .slice ae8 m8 d8]) (o3.below hb) rfl rfl)) ⟨rfl, Below.refl _ _, (fun h => absurd h (by decide))⟩)
  · intro a' w' hF' hb hd
    have e34 : a'.tmps.getD 34 undef = .bool true := hd _ 34 (Array.mem_of_getElem? (i := 1) rfl) rfl rfl
    have e35 : a'.tmps.getD 35 undef = .agg #[.bool b8, .slice ad8 n8 c8, .slice ae8 m8 d8] := hd _ 35 (Array.mem_of_getElem? (i := 0) rfl) rfl rfl
    refine if_does (wanted_by rfl rfl e34 rfl) (Does.calls (r_call Try.func54 en54.1 en54.2 (map1 e35)) (rOpp_any _ (((rawZ nega1 xa1 6 : Int) : Rat) / ((rawZ negb1 xb1 6 : Int) : Rat)) _ (hh5.below hb)) ?_)
    rintro e w'' ⟨v', rfl, h', bb⟩
    exact ⟨_, rfl, h', bb, (fun h => absurd h (by decide))⟩
  · intro a' w' hF' hb hd
    have e34 : a'.tmps.getD 34 undef = .bool true := hd _ 34 (Array.mem_of_getElem? (i := 0) rfl) rfl rfl
    exact if_does (wanted_by rfl rfl e34 rfl) (Does.vals (r_load (hF'.at 1 rfl) (ld_RRat (vs := [.bool b10, .slice ad10 n10 c10, .slice ae10 m10 d10]) (o4.below hb) rfl rfl)) ⟨rfl, Below.refl _ _, (fun h => absurd h (by decide))⟩)
  · intro a' w' hF' hb hd
    have e34 : a'.tmps.getD 34 undef = .bool true := hd _ 34 (Array.mem_of_getElem? (i := 2) rfl) rfl rfl
    have e37 : a'.tmps.getD 37 undef = .agg #[.bool b10, .slice ad10 n10 c10, .slice ae10 m10 d10] := hd _ 37 (Array.mem_of_getElem? (i := 0) rfl) rfl rfl
    refine if_does (wanted_by rfl rfl e34 rfl) (Does.calls (r_call Try.func55 en55.1 en55.2 (map1 e37)) (dOpp_any _ (((rawZ nega1 xa1 6 : Int) : Rat) / ((rawZ negb1 xb1 6 : Int) : Rat)) 6 _ (hh7.below hb)) ?_)
    rintro e w'' ⟨v', rfl, h', bb⟩
    exact ⟨_, rfl, h', bb, (fun h => absurd h (by decide))⟩
  · intro a' w' hF' hb hd
    have e34 : a'.tmps.getD 34 undef = .bool true := hd _ 34 (Array.mem_of_getElem? (i := 3) rfl) rfl rfl
    obtain ⟨v36_0, e36, h36_1⟩ : ∃ v, a'.tmps.getD 36 undef = v ∧ Rq w' v (-(((rawZ nega1 xa1 6 : Int) : Rat) / ((rawZ negb1 xb1 6 : Int) : Rat))) := ⟨_, rfl, hd _ 36 (Array.mem_of_getElem? (i := 0) rfl) rfl rfl⟩
    obtain ⟨v38_0, e38, h38_1⟩ : ∃ v, a'.tmps.getD 38 undef = v ∧ Rr w' v (-(((rawZ nega1 xa1 6 : Int) : Rat) / ((rawZ negb1 xb1 6 : Int) : Rat))) (6) := ⟨_, rfl, hd _ 38 (Array.mem_of_getElem? (i := 1) rfl) rfl rfl⟩
    refine if_does (wanted_by rfl rfl e34 rfl) (Does.calls (r_call Try.func51 en51.1 en51.2 (map2 e36 e38)) (Is5_any _ _ (-(((rawZ nega1 xa1 6 : Int) : Rat) / ((rawZ negb1 xb1 6 : Int) : Rat))) (-(((rawZ nega1 xa1 6 : Int) : Rat) / ((rawZ negb1 xb1 6 : Int) : Rat))) 6 6 _ h36_1 h38_1 (rlim_neg (own5_lim nega1 negb1 oka1 okb1 6 (by decide))) rfl (by omega) (by omega)) ?_)
    rintro e w'' ⟨rfl, bb⟩
    exact ⟨_, rfl, rfl, bb, (fun h => absurd h (by decide))⟩
  · intro a' w' hF' hb hd
    have e34 : a'.tmps.getD 34 undef = .bool true := hd _ 34 (Array.mem_of_getElem? (i := 1) rfl) rfl rfl
    have e39 : a'.tmps.getD 39 undef = .int .i64 0 := hd _ 39 (Array.mem_of_getElem? (i := 0) rfl) rfl rfl
    exact if_does (wanted_by rfl rfl e34 rfl) (Does.vals (r_bin e39 ev_c eg_scalar (bi_int (ic_eql (c := true) (by simp)) (by simp))) ⟨rfl, Below.refl _ _, (fun h => absurd h (by decide))⟩)
  · intro a' w' hF' hb hd
    have e34 : a'.tmps.getD 34 undef = .bool true := hd _ 34 (Array.mem_of_getElem? (i := 0) rfl) rfl rfl
    have e40 : a'.tmps.getD 40 undef = .bool true := hd _ 40 (Array.mem_of_getElem? (i := 1) rfl) rfl rfl
    exact if_does (wanted_free rfl) (Does.vals (r_pick_t e34 e40) ⟨rfl, Below.refl _ _, (fun h => absurd h (by decide))⟩)
  · intro a' w' hF' hb hd
    have e41 : a'.tmps.getD 41 undef = .bool true := hd _ 41 (Array.mem_of_getElem? (i := 0) rfl) rfl rfl
    exact if_does (wanted_free rfl) (Does.vals (r_move e41) ⟨rfl, Below.refl _ _, (fun h => absurd h (by decide))⟩)
  · intro a' w' hF' hb hd
    have e42 : a'.tmps.getD 42 undef = .bool true := hd _ 42 (Array.mem_of_getElem? (i := 0) rfl) rfl rfl
    exact if_does (wanted_by rfl rfl e42 rfl) (Does.vals (r_load (hF'.at 2 rfl) (ld_Rat (vs := [.bool b8, .slice ad8 n8 c8, .slice ae8 m8 d8]) (o3.below hb) rfl rfl)) ⟨rfl, Below.refl _ _, (fun h => absurd h (by decide))⟩)
  · intro a' w' hF' hb hd
    have e42 : a'.tmps.getD 42 undef = .bool true := hd _ 42 (Array.mem_of_getElem? (i := 1) rfl) rfl rfl
    have e43 : a'.tmps.getD 43 undef = .agg #[.bool b8, .slice ad8 n8 c8, .slice ae8 m8 d8] := hd _ 43 (Array.mem_of_getElem? (i := 0) rfl) rfl rfl
    refine if_does (wanted_by rfl rfl e42 rfl) (Does.calls (r_call Try.func56 en56.1 en56.2 (map1 e43)) (rAbs_any _ (((rawZ nega1 xa1 6 : Int) : Rat) / ((rawZ negb1 xb1 6 : Int) : Rat)) _ (hh5.below hb)) ?_)
    rintro e w'' ⟨v', rfl, h', bb⟩
    exact ⟨_, rfl, h', bb, (fun h => absurd h (by decide))⟩
  · intro a' w' hF' hb hd
    have e42 : a'.tmps.getD 42 undef = .bool true := hd _ 42 (Array.mem_of_getElem? (i := 0) rfl) rfl rfl
    exact if_does (wanted_by rfl rfl e42 rfl) (Does.vals (r_load (hF'.at 1 rfl) (ld_RRat (vs := [.bool b10, .slice ad10 n10 c10, .slice ae10 m10 d10]) (o4.below hb) rfl rfl)) ⟨rfl, Below.refl _ _, (fun h => absurd h (by decide))⟩)
  · intro a' w' hF' hb hd
    have e42 : a'.tmps.getD 42 undef = .bool true := hd _ 42 (Array.mem_of_getElem? (i := 2) rfl) rfl rfl
    have e45 : a'.tmps.getD 45 undef = .agg #[.bool b10, .slice ad10 n10 c10, .slice ae10 m10 d10] := hd _ 45 (Array.mem_of_getElem? (i := 0) rfl) rfl rfl
    refine if_does (wanted_by rfl rfl e42 rfl) (Does.calls (r_call Try.func57 en57.1 en57.2 (map1 e45)) (dAbs_any _ (((rawZ nega1 xa1 6 : Int) : Rat) / ((rawZ negb1 xb1 6 : Int) : Rat)) 6 _ (hh7.below hb)) ?_)
    rintro e w'' ⟨v', rfl, h', bb⟩
    exact ⟨_, rfl, h', bb, (fun h => absurd h (by decide))⟩
  · intro a' w' hF' hb hd
    have e42 : a'.tmps.getD 42 undef = .bool true := hd _ 42 (Array.mem_of_getElem? (i := 3) rfl) rfl rfl
    obtain ⟨v44_0, e44, h44_1⟩ : ∃ v, a'.tmps.getD 44 undef = v ∧ Rq w' v (Rat.abs (((rawZ nega1 xa1 6 : Int) : Rat) / ((rawZ negb1 xb1 6 : Int) : Rat))) := ⟨_, rfl, hd _ 44 (Array.mem_of_getElem? (i := 0) rfl) rfl rfl⟩
    obtain ⟨v46_0, e46, h46_1⟩ : ∃ v, a'.tmps.getD 46 undef = v ∧ Rr w' v (Rat.abs (((rawZ nega1 xa1 6 : Int) : Rat) / ((rawZ negb1 xb1 6 : Int) : Rat))) (6) := ⟨_, rfl, hd _ 46 (Array.mem_of_getElem? (i := 1) rfl) rfl rfl⟩
    refine if_does (wanted_by rfl rfl e42 rfl) (Does.calls (r_call Try.func51 en51.1 en51.2 (map2 e44 e46)) (Is5_any _ _ (Rat.abs (((rawZ nega1 xa1 6 : Int) : Rat) / ((rawZ negb1 xb1 6 : Int) : Rat))) (Rat.abs (((rawZ nega1 xa1 6 : Int) : Rat) / ((rawZ negb1 xb1 6 : Int) : Rat))) 6 6 _ h44_1 h46_1 (rlim_abs (own5_lim nega1 negb1 oka1 okb1 6 (by decide))) rfl (by omega) (by omega)) ?_)
    rintro e w'' ⟨rfl, bb⟩
    exact ⟨_, rfl, rfl, bb, (fun h => absurd h (by decide))⟩
  · intro a' w' hF' hb hd
    have e42 : a'.tmps.getD 42 undef = .bool true := hd _ 42 (Array.mem_of_getElem? (i := 1) rfl) rfl rfl
    have e47 : a'.tmps.getD 47 undef = .int .i64 0 := hd _ 47 (Array.mem_of_getElem? (i := 0) rfl) rfl rfl
    exact if_does (wanted_by rfl rfl e42 rfl) (Does.vals (r_bin e47 ev_c eg_scalar (bi_int (ic_eql (c := true) (by simp)) (by simp))) ⟨rfl, Below.refl _ _, (fun h => absurd h (by decide))⟩)
  · intro a' w' hF' hb hd
    have e42 : a'.tmps.getD 42 undef = .bool true := hd _ 42 (Array.mem_of_getElem? (i := 0) rfl) rfl rfl
    have e48 : a'.tmps.getD 48 undef = .bool true := hd _ 48 (Array.mem_of_getElem? (i := 1) rfl) rfl rfl
    exact if_does (wanted_free rfl) (Does.vals (r_pick_t e42 e48) ⟨rfl, Below.refl _ _, (fun h => absurd h (by decide))⟩)
  · intro a' w' hF' hb hd
    have e49 : a'.tmps.getD 49 undef = .bool true := hd _ 49 (Array.mem_of_getElem? (i := 0) rfl) rfl rfl
    exact if_does (wanted_free rfl) (Does.vals (r_move e49) ⟨rfl, Below.refl _ _, (fun h => absurd h (by decide))⟩)
  · intro a' w' hF' hb hd
    have e50 : a'.tmps.getD 50 undef = .bool true := hd _ 50 (Array.mem_of_getElem? (i := 0) rfl) rfl rfl
    exact if_does (wanted_by rfl rfl e50 rfl) (Does.vals (r_load (hF'.at 2 rfl) (ld_Rat (vs := [.bool b8, .slice ad8 n8 c8, .slice ae8 m8 d8]) (o3.below hb) rfl rfl)) ⟨rfl, Below.refl _ _, (fun h => absurd h (by decide))⟩)
  · intro a' w' hF' hb hd
    have e50 : a'.tmps.getD 50 undef = .bool true := hd _ 50 (Array.mem_of_getElem? (i := 1) rfl) rfl rfl
    have e51 : a'.tmps.getD 51 undef = .agg #[.bool b8, .slice ad8 n8 c8, .slice ae8 m8 d8] := hd _ 51 (Array.mem_of_getElem? (i := 0) rfl) rfl rfl
    refine if_does (wanted_by rfl rfl e50 rfl) (Does.calls (r_call Try.func58 en58.1 en58.2 (map1 e51)) (rsgn_any _ (((rawZ nega1 xa1 6 : Int) : Rat) / ((rawZ negb1 xb1 6 : Int) : Rat)) _ (hh5.below hb)) ?_)
    rintro e w'' ⟨rfl, bb⟩
    exact ⟨_, rfl, rfl, bb, (fun h => absurd h (by decide))⟩
  · intro a' w' hF' hb hd
    have e50 : a'.tmps.getD 50 undef = .bool true := hd _ 50 (Array.mem_of_getElem? (i := 0) rfl) rfl rfl
    exact if_does (wanted_by rfl rfl e50 rfl) (Does.vals (r_load (hF'.at 1 rfl) (ld_RRat (vs := [.bool b10, .slice ad10 n10 c10, .slice ae10 m10 d10]) (o4.below hb) rfl rfl)) ⟨rfl, Below.refl _ _, (fun h => absurd h (by decide))⟩)
  · intro a' w' hF' hb hd
    have e50 : a'.tmps.getD 50 undef = .bool true := hd _ 50 (Array.mem_of_getElem? (i := 2) rfl) rfl rfl
    have e53 : a'.tmps.getD 53 undef = .agg #[.bool b10, .slice ad10 n10 c10, .slice ae10 m10 d10] := hd _ 53 (Array.mem_of_getElem? (i := 0) rfl) rfl rfl
    refine if_does (wanted_by rfl rfl e50 rfl) (Does.calls (r_call Try.func59 en59.1 en59.2 (map1 e53)) (dSgn_any _ (((rawZ nega1 xa1 6 : Int) : Rat) / ((rawZ negb1 xb1 6 : Int) : Rat)) 6 _ (hh7.below hb)) ?_)
    rintro e w'' ⟨rfl, bb⟩
    exact ⟨_, rfl, rfl, bb, (fun h => absurd h (by decide))⟩
  · intro a' w' hF' hb hd
    have e50 : a'.tmps.getD 50 undef = .bool true := hd _ 50 (Array.mem_of_getElem? (i := 2) rfl) rfl rfl
    have e52 : a'.tmps.getD 52 undef = .int .i64 (sz (Rat.num (((rawZ nega1 xa1 6 : Int) : Rat) / ((rawZ negb1 xb1 6 : Int) : Rat)))) := hd _ 52 (Array.mem_of_getElem? (i := 0) rfl) rfl rfl
    have e54 : a'.tmps.getD 54 undef = .int .i64 (sz (Rat.num (((rawZ nega1 xa1 6 : Int) : Rat) / ((rawZ negb1 xb1 6 : Int) : Rat)))) := hd _ 54 (Array.mem_of_getElem? (i := 1) rfl) rfl rfl
    exact if_does (wanted_by rfl rfl e50 rfl) (Does.vals (r_bin e52 e54 eg_scalar (bi_int (ic_eql (c := true) (by simp)) (by simp))) ⟨rfl, Below.refl _ _, (fun h => absurd h (by decide))⟩)
  · intro a' w' hF' hb hd
    have e50 : a'.tmps.getD 50 undef = .bool true := hd _ 50 (Array.mem_of_getElem? (i := 0) rfl) rfl rfl
    have e55 : a'.tmps.getD 55 undef = .bool true := hd _ 55 (Array.mem_of_getElem? (i := 1) rfl) rfl rfl
    exact if_does (wanted_free rfl) (Does.vals (r_pick_t e50 e55) ⟨rfl, Below.refl _ _, (fun h => absurd h (by decide))⟩)
  intro a w19 hF bb hall hne
  have e56 : a.tmps.getD 56 undef = .bool true := hall 38 56 rfl
  clear hall hne
  replace bel := below_to bel bb
  clear bb
  replace hF := hF.add e56
  clear e56
  refine E.opset (L' := [(2, .bool true), (56, .bool true), (5, .slice ad18 n18 c18), (4, .pointer (some ⟨g4, 0, none⟩)), (3, .pointer (some ⟨g3, 0, none⟩)), (11, .agg #[.bool b10, .slice ad10 n10 c10, .slice ae10 m10 d10]), (9, .agg #[.bool b8, .slice ad8 n8 c8, .slice ae8 m8 d8]), (7, .bool false), (6, .bool true), (1, .pointer (some ⟨g1, 0, none⟩)), (0, .agg #[.bool nega1, .slice aa1 na1 ca1, .bool negb1, .slice ab1 nb1 cb1])]) hF (r_assign (hF.at 0 rfl)) rfl rfl rfl rfl fun a hF => ?_
  refine E.nil ?_
  refine wp_ret ?_
  refine bodyPost_ret (res_tmp Try.results10 (hF.at 0 rfl)) hF.dfr ?_
  exact ⟨rfl, bel⟩

end Go.Proofs.Ytjgafncpahbjkaa

/- How two rational numbers stand. -/
namespace Go.Proofs.Ytjgafncpahbjkaa
open Go.RowKit
set_option maxRecDepth 100000
set_option linter.unusedVariables false

theorem qc_def (a b : Rat) : qc a b = if a < b then -1 else if b < a then 1 else 0 := by
  unfold qc ci
  simp only [← Rat.lt_iff]
theorem qc_bd (a b : Rat) : -1 ≤ qc a b ∧ qc a b ≤ 1 := by rw [qc_def]; split <;> (try split) <;> omega
theorem sz_bd (z : Int) : -1 ≤ sz z ∧ sz z ≤ 1 := by unfold sz; split <;> (try split) <;> omega
theorem sz_def (q : Rat) : sz q.num = if q < 0 then -1 else if 0 < q then 1 else 0 := by
  have h1 : q < 0 ↔ q.num < 0 := by rw [Rat.lt_iff]; simp
  have h2 : 0 < q ↔ 0 < q.num := by rw [Rat.lt_iff]; simp
  simp only [h1, h2]
  unfold sz
  split
  · rename_i e; rw [e]; simp
  · split
    · rfl
    · rw [if_pos (by omega)]
theorem small_mul {a b : Int} (ha : -1 ≤ a ∧ a ≤ 1) (hb : -1 ≤ b ∧ b ≤ 1) : -9223372036854775808 ≤ a * b ∧ a * b ≤ 9223372036854775807 := by
  obtain ⟨a1, a2⟩ := ha
  obtain ⟨b1, b2⟩ := hb
  have h : a = -1 ∨ a = 0 ∨ a = 1 := by omega
  rcases h with rfl | rfl | rfl <;> constructor <;> omega
theorem qc_symm (a b : Rat) : qc b a = -qc a b := by
  rw [qc_def, qc_def]; split <;> split <;> (try split) <;> grind
theorem qc_add (a b c : Rat) : qc (a + c) (b + c) = qc a b := by
  rw [qc_def, qc_def]; simp only [Rat.add_lt_add_right]
theorem qc_sub (a b : Rat) : sz (a - b).num = qc a b := by
  rw [sz_def, qc_def]
  have h1 : a - b < 0 ↔ a < b := by grind
  have h2 : 0 < a - b ↔ b < a := by grind
  simp only [h1, h2]
theorem qc_mul (a b c : Rat) : qc (a * c) (b * c) = qc a b * sz c.num := by
  rw [sz_def]
  by_cases h1 : c < 0
  · rw [if_pos h1, qc_def, qc_def]
    have e1 : a * c < b * c ↔ b < a := by
      have := Rat.mul_lt_mul_right (a := b) (b := a) (c := -c) (by grind)
      rw [Rat.mul_neg, Rat.mul_neg, Rat.neg_lt_neg_iff] at this
      exact this
    have e2 : b * c < a * c ↔ a < b := by
      have := Rat.mul_lt_mul_right (a := a) (b := b) (c := -c) (by grind)
      rw [Rat.mul_neg, Rat.mul_neg, Rat.neg_lt_neg_iff] at this
      exact this
    simp only [e1, e2]
    split <;> split <;> (try split) <;> grind
  · rw [if_neg h1]
    by_cases h2 : 0 < c
    · rw [if_pos h2, qc_def, qc_def]
      simp only [Rat.mul_lt_mul_right h2, Int.mul_one]
    · rw [if_neg h2]
      have : c = 0 := by grind
      subst this
      rw [Rat.mul_zero, Rat.mul_zero, qc_def, if_neg Rat.lt_irrefl, if_neg Rat.lt_irrefl]
      omega
theorem qc_trans {a b c : Rat} (h1 : qc a b ≤ 0) (h2 : qc b c ≤ 0) : qc a c ≤ 0 := by
  rw [qc_def] at *
  grind
theorem neg_rng {a : Int} (h : -1 ≤ a ∧ a ≤ 1) : -9223372036854775808 ≤ -a ∧ -a ≤ 9223372036854775807 := ⟨by omega, by omega⟩
end Go.Proofs.Ytjgafncpahbjkaa
