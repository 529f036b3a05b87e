/- LwA LwB LwQ -/
import Derived.Test.YtmpdbkdijfpbbaaDoorGI

/- Laws of layer 5: Own, Told, Is, awake. -/
namespace Go.Proofs.YtmpdbkdijfpbbaaDoor
open Go.RowKit
set_option maxRecDepth 100000
set_option linter.unusedVariables false

theorem cross_of {q : Rat} {z : Int} {D : Nat} (h : q = mkRat z D) (hD : 0 < D) : q.num * (D : Int) = z * (q.den : Int) := by
  have h2 : mkRat q.num q.den = mkRat z D := by rw [Rat.mkRat_self]; exact h
  exact (Rat.mkRat_eq_iff q.den_nz (by omega)).1 h2
theorem own5_lim (a b : Bool) {x y : List Nat} (h1 : okb B32 x) (h2 : okb B32 y) (m : Nat) (hm : 1 ≤ m) : RLim ((rawZ a x m : Rat) / (rawZ b y m : Rat)) m :=
  RLim.up (rlim_mk2 (rawZ_limo a h1 m) (rawZ_limo b h2 m)) m (by omega)
set_option maxHeartbeats 1000000 in
theorem Own5_any (nega1 : Bool) (aa1 : Option Addr) (na1 ca1 : Nat) (xa1 : List Nat) (negb1 : Bool) (ab1 : Option Addr) (nb1 cb1 : Nat) (xb1 : List Nat) (m : Nat) (w : World) (ia1 : InX w aa1 na1 ca1 xa1) (ib1 : InX w ab1 nb1 cb1 xb1) (hm : m ≤ 1000) :
    Calls Tryd.prog 9 #[.agg #[.bool nega1, .slice aa1 na1 ca1, .bool negb1, .slice ab1 nb1 cb1], .int .i64 (m : Nat)] w (RqPost w ((rawZ nega1 xa1 m : Rat) / (rawZ negb1 xb1 m : Rat))) := by
  have oka1 := ia1.ok
  have okb1 := ib1.ok
  have bel : Below w.heap.size w w := Below.refl _ _
  refine E.enter (nt := 14) (L := [(0, .agg #[.bool nega1, .slice aa1 na1 ca1, .bool negb1, .slice ab1 nb1 cb1]), (1, .int .i64 ((m : Nat) : Int))]) Tryd.func9 rfl rfl rfl (args_cons (i := 0) rfl (args_cons (i := 1) rfl args_nil)) ?_
  intro a hF
  refine wp_seq ?_
  refine E.seq ?_
  obtain ⟨g2, w1, ge2, hr, bb, o2⟩ := own_box (P := Tryd.prog) (w := w) (cs := [.bool nega1, .slice aa1 na1 ca1, .bool negb1, .slice ab1 nb1 cb1]) (v := .agg #[.bool nega1, .slice aa1 na1 ca1, .bool negb1, .slice ab1 nb1 cb1]) 26 rfl (niB (niS (niB (niS ni0))))
  replace ge2 : w.heap.size ≤ g2 := by rw [← ge2]; exact bel.size
  refine E.opv hF (r_box (hF.at 0 rfl) hr) rfl rfl rfl rfl fun a hF => ?_
  clear hr
  replace ia1 := ia1.below bb
  replace ib1 := ib1.below bb
  replace bel := below_to bel bb
  clear bb
  obtain ⟨g4, w2, ge4, hr, bb, o4⟩ := own_alloc (P := Tryd.prog) (w := w1) (cs := [.bool false, .slice none 0 0, .slice none 0 0]) 32 ze_Rat rfl (niB (niS (niS ni0)))
  have ne2_4 : g2 ≠ g4 := by rw [← ge4]; exact o2.ne_new
  replace ge4 : w.heap.size ≤ g4 := by rw [← ge4]; exact bel.size
  refine E.opv hF (r_alloc hr) rfl rfl rfl rfl fun a hF => ?_
  clear hr
  replace ia1 := ia1.below bb
  replace ib1 := ib1.below bb
  replace o2 := o2.below bb
  replace bel := below_to bel bb
  clear bb
  refine E.nil ?_
  refine wp_seq ?_
  refine E.drawn 9 mixed hF [5, 6, 7, 8, 9, 10, 11, 12, 13] [(fun _ v => v = .pointer (some ⟨g2, 0, none⟩)), (fun _ v => v = .agg #[.bool nega1, .slice aa1 na1 ca1]), (fun _ v => v = .int .i64 ((m : Nat) : Int)), (fun w v => Wz w v (rawZ nega1 xa1 m)), (fun _ v => v = .pointer (some ⟨g2, 2, none⟩)), (fun _ v => v = .agg #[.bool negb1, .slice ab1 nb1 cb1]), (fun _ v => v = .int .i64 ((m : Nat) : Int)), (fun w v => Wz w v (rawZ negb1 xb1 m)), (fun w v => Rq w v ((rawZ nega1 xa1 m : Rat) / (rawZ negb1 xb1 m : Rat)))] [] (by decide +kernel) (by decide +kernel) rfl rfl rfl ⟨(Mb.eq _), (Mb.eq _), (Mb.eq _), (fun _ _ _ h hb => h.below hb), (Mb.eq _), (Mb.eq _), (Mb.eq _), (fun _ _ _ h hb => h.below hb), (fun _ _ _ h hb => h.below hb), trivial⟩ trivial ⟨?_, ?_, ?_, ?_, ?_, ?_, ?_, ?_, ?_, trivial⟩ ?_
  · intro a' w' hF' hb hd
    exact if_does (wanted_free rfl) (Does.vals (r_field (hF'.at 1 rfl) (fa_Raw5_0 (p := 0) rfl)) ⟨rfl, Below.refl _ _, (fun h => absurd h (by decide))⟩)
  · intro a' w' hF' hb hd
    have e5 : a'.tmps.getD 5 undef = .pointer (some ⟨g2, 0, none⟩) := hd _ 5 (Array.mem_of_getElem? (i := 0) rfl) rfl rfl
    exact if_does (wanted_free rfl) (Does.vals (r_load e5 (ld_Raw (vs := [.bool nega1, .slice aa1 na1 ca1]) (o2.below hb) rfl rfl)) ⟨rfl, Below.refl _ _, (fun h => absurd h (by decide))⟩)
  · intro a' w' hF' hb hd
    exact if_does (wanted_free rfl) (Does.vals (r_move (hF'.at 3 rfl)) ⟨rfl, Below.refl _ _, (fun h => absurd h (by decide))⟩)
  · intro a' w' hF' hb hd
    have e6 : a'.tmps.getD 6 undef = .agg #[.bool nega1, .slice aa1 na1 ca1] := hd _ 6 (Array.mem_of_getElem? (i := 0) rfl) rfl rfl
    have e7 : a'.tmps.getD 7 undef = .int .i64 ((m : Nat) : Int) := hd _ 7 (Array.mem_of_getElem? (i := 1) rfl) rfl rfl
    refine if_does (wanted_free rfl) (Does.calls (r_call Tryd.func39 en39.1 en39.2 (map2 e6 e7)) (own_any nega1 aa1 na1 ca1 m xa1 _ (ia1.below hb) (by omega)) ?_)
    rintro e w'' ⟨v', rfl, h', bb⟩
    exact ⟨_, rfl, h', bb, (fun h => absurd h (by decide))⟩
  · intro a' w' hF' hb hd
    exact if_does (wanted_free rfl) (Does.vals (r_field (hF'.at 1 rfl) (fa_Raw5_1 (p := 2) rfl)) ⟨rfl, Below.refl _ _, (fun h => absurd h (by decide))⟩)
  · intro a' w' hF' hb hd
    have e9 : a'.tmps.getD 9 undef = .pointer (some ⟨g2, 2, none⟩) := hd _ 9 (Array.mem_of_getElem? (i := 0) rfl) rfl rfl
    exact if_does (wanted_free rfl) (Does.vals (r_load e9 (ld_Raw (vs := [.bool negb1, .slice ab1 nb1 cb1]) (o2.below hb) rfl rfl)) ⟨rfl, Below.refl _ _, (fun h => absurd h (by decide))⟩)
  · intro a' w' hF' hb hd
    exact if_does (wanted_free rfl) (Does.vals (r_move (hF'.at 3 rfl)) ⟨rfl, Below.refl _ _, (fun h => absurd h (by decide))⟩)
  · intro a' w' hF' hb hd
    have e10 : a'.tmps.getD 10 undef = .agg #[.bool negb1, .slice ab1 nb1 cb1] := hd _ 10 (Array.mem_of_getElem? (i := 0) rfl) rfl rfl
    have e11 : a'.tmps.getD 11 undef = .int .i64 ((m : Nat) : Int) := hd _ 11 (Array.mem_of_getElem? (i := 1) rfl) rfl rfl
    refine if_does (wanted_free rfl) (Does.calls (r_call Tryd.func39 en39.1 en39.2 (map2 e10 e11)) (own_any negb1 ab1 nb1 cb1 m xb1 _ (ib1.below hb) (by omega)) ?_)
    rintro e w'' ⟨v', rfl, h', bb⟩
    exact ⟨_, rfl, h', bb, (fun h => absurd h (by decide))⟩
  · intro a' w' hF' hb hd
    obtain ⟨v8_0, e8, h8_1⟩ : ∃ v, a'.tmps.getD 8 undef = v ∧ Wz w' v (rawZ nega1 xa1 m) := ⟨_, rfl, hd _ 8 (Array.mem_of_getElem? (i := 0) rfl) rfl rfl⟩
    obtain ⟨v12_0, e12, h12_1⟩ : ∃ v, a'.tmps.getD 12 undef = v ∧ Wz w' v (rawZ negb1 xb1 m) := ⟨_, rfl, hd _ 12 (Array.mem_of_getElem? (i := 1) rfl) rfl rfl⟩
    refine if_does (wanted_free rfl) (Does.calls (r_call Tryd.func38 en38.1 en38.2 (map2 e8 e12)) (rmk_any _ _ (rawZ nega1 xa1 m) (rawZ negb1 xb1 m) _ h8_1 h12_1) ?_)
    rintro e w'' ⟨v', rfl, h', bb⟩
    exact ⟨_, rfl, h', bb, (fun h => absurd h (by decide))⟩
  intro a w3 hF bb hall hne
  obtain ⟨vv4, e13, hh5⟩ : ∃ v, a.tmps.getD 13 undef = v ∧ Rq w3 v ((rawZ nega1 xa1 m : Rat) / (rawZ negb1 xb1 m : Rat)) := ⟨_, rfl, hall 8 13 rfl⟩
  clear hall hne
  replace o4 := o4.below bb
  replace bel := below_to bel bb
  clear bb
  obtain ⟨b6, ad6, n6, c6, ae6, m6, d6, rfl, hn6, hd6⟩ := Rq.shape hh5
  have hf7 := Wc.abs hn6
  replace hF := hF.add e13
  clear e13
  obtain ⟨w8, hr, tu, on⟩ := st_Rat (vs := [.bool b6, .slice ad6 n6 c6, .slice ae6 m6 d6]) o4 rfl rfl (ocB (ocS (ocS oc0))) (niB (niS (niS ni0))) (o := 0) rfl
  have kp := tu.keep o4
  refine E.st hF (r_store (hF.at 1 rfl) (hF.at 0 rfl) (hr _ rfl)) rfl rfl fun a hF => ?_
  clear hr
  replace hh5 := hh5.keep kp
  replace hn6 := hn6.keep kp
  replace hf7 := hf7.keep kp
  replace hd6 := hd6.keep kp
  replace bel := tu.below bel ge4
  clear tu kp
  replace o4 := on
  clear on
  refine E.nil ?_
  refine wp_ret ?_
  refine bodyPost_ret (res_cell Tryd.results9 (hF.at 1 rfl) (ld_Rat (vs := [.bool b6, .slice ad6 n6 c6, .slice ae6 m6 d6]) o4 rfl rfl)) hF.dfr ?_
  exact ⟨_, rfl, hh5, bel⟩

end Go.Proofs.YtmpdbkdijfpbbaaDoor

/- The walk of RatMakes. -/
namespace Go.Proofs.YtmpdbkdijfpbbaaDoor
open Go.RowKit
set_option maxRecDepth 100000
set_option linter.unusedVariables false

theorem rSame_true (v1 v2 : Value) (q1 q2 : Rat) (w : World) (h1 : Rq w v1 q1) (h2 : Rq w v2 q2) (h : q1 = q2) : Calls Tryd.prog 20 #[v1, v2] w (BoolPost w true) := by
  have := rSame_any v1 v2 q1 q2 w h1 h2
  rw [decide_eq_true h] at this
  exact this
theorem rSame_false (v1 v2 : Value) (q1 q2 : Rat) (w : World) (h1 : Rq w v1 q1) (h2 : Rq w v2 q2) (h : q1 ≠ q2) : Calls Tryd.prog 20 #[v1, v2] w (BoolPost w false) := by
  have := rSame_any v1 v2 q1 q2 w h1 h2
  rw [decide_eq_false h] at this
  exact this
theorem bits_pos (q : Rat) : (0 : Int) < (dl 2 q.den : Nat) := by have := dl_pos (by decide : 2 ≤ 2) (Rat.den_pos q); omega
end Go.Proofs.YtmpdbkdijfpbbaaDoor

/- How two rational numbers stand. -/
namespace Go.Proofs.YtmpdbkdijfpbbaaDoor
open Go.RowKit
set_option maxRecDepth 100000
set_option linter.unusedVariables false

theorem qc_def (a b : Rat) : qc a b = if a < b then -1 else if b < a then 1 else 0 := by
  unfold qc ci
  simp only [← Rat.lt_iff]
theorem qc_bd (a b : Rat) : -1 ≤ qc a b ∧ qc a b ≤ 1 := by rw [qc_def]; split <;> (try split) <;> omega
theorem sz_bd (z : Int) : -1 ≤ sz z ∧ sz z ≤ 1 := by unfold sz; split <;> (try split) <;> omega
theorem sz_def (q : Rat) : sz q.num = if q < 0 then -1 else if 0 < q then 1 else 0 := by
  have h1 : q < 0 ↔ q.num < 0 := by rw [Rat.lt_iff]; simp
  have h2 : 0 < q ↔ 0 < q.num := by rw [Rat.lt_iff]; simp
  simp only [h1, h2]
  unfold sz
  split
  · rename_i e; rw [e]; simp
  · split
    · rfl
    · rw [if_pos (by omega)]
theorem small_mul {a b : Int} (ha : -1 ≤ a ∧ a ≤ 1) (hb : -1 ≤ b ∧ b ≤ 1) : -9223372036854775808 ≤ a * b ∧ a * b ≤ 9223372036854775807 := by
  obtain ⟨a1, a2⟩ := ha
  obtain ⟨b1, b2⟩ := hb
  have h : a = -1 ∨ a = 0 ∨ a = 1 := by omega
  rcases h with rfl | rfl | rfl <;> constructor <;> omega
theorem qc_symm (a b : Rat) : qc b a = -qc a b := by
  rw [qc_def, qc_def]; split <;> split <;> (try split) <;> grind
theorem qc_add (a b c : Rat) : qc (a + c) (b + c) = qc a b := by
  rw [qc_def, qc_def]; simp only [Rat.add_lt_add_right]
theorem qc_sub (a b : Rat) : sz (a - b).num = qc a b := by
  rw [sz_def, qc_def]
  have h1 : a - b < 0 ↔ a < b := by grind
  have h2 : 0 < a - b ↔ b < a := by grind
  simp only [h1, h2]
theorem qc_mul (a b c : Rat) : qc (a * c) (b * c) = qc a b * sz c.num := by
  rw [sz_def]
  by_cases h1 : c < 0
  · rw [if_pos h1, qc_def, qc_def]
    have e1 : a * c < b * c ↔ b < a := by
      have := Rat.mul_lt_mul_right (a := b) (b := a) (c := -c) (by grind)
      rw [Rat.mul_neg, Rat.mul_neg, Rat.neg_lt_neg_iff] at this
      exact this
    have e2 : b * c < a * c ↔ a < b := by
      have := Rat.mul_lt_mul_right (a := a) (b := b) (c := -c) (by grind)
      rw [Rat.mul_neg, Rat.mul_neg, Rat.neg_lt_neg_iff] at this
      exact this
    simp only [e1, e2]
    split <;> split <;> (try split) <;> grind
  · rw [if_neg h1]
    by_cases h2 : 0 < c
    · rw [if_pos h2, qc_def, qc_def]
      simp only [Rat.mul_lt_mul_right h2, Int.mul_one]
    · rw [if_neg h2]
      have : c = 0 := by grind
      subst this
      rw [Rat.mul_zero, Rat.mul_zero, qc_def, if_neg Rat.lt_irrefl, if_neg Rat.lt_irrefl]
      omega
theorem qc_trans {a b c : Rat} (h1 : qc a b ≤ 0) (h2 : qc b c ≤ 0) : qc a c ≤ 0 := by
  rw [qc_def] at *
  grind
theorem neg_rng {a : Int} (h : -1 ≤ a ∧ a ≤ 1) : -9223372036854775808 ≤ -a ∧ -a ≤ 9223372036854775807 := ⟨by omega, by omega⟩
end Go.Proofs.YtmpdbkdijfpbbaaDoor
