/- The document's texts and bits. -/
import Derived.Test.YthoiocjbjfhgpaaGreatCuC
import Derived.Test.YthoiocjbjfhgpaaGreatRrL
import Derived.Test.YthoiocjbjfhgpaaGreatPrH
namespace Go.Proofs.YthoiocjbjfhgpaaGreat
open Go.RowKit
set_option maxRecDepth 100000
set_option linter.unusedVariables false

/-- The document's rational number in lowest terms. -/
def Rn (w : World) (v : Value) (q : Rat) : Prop :=
  ∃ b ad n c ae m d, v = .agg #[.bool b, .slice ad n c, .slice ae m d] ∧ Rz w (.agg #[.bool b, .slice ad n c]) q.num ∧ Dg w .i64 65536 (.slice ae m d) q.den
theorem Rn.shape {w : World} {v : Value} {q : Rat} (h : Rn w v q) : ∃ b ad n c ae m d, v = .agg #[.bool b, .slice ad n c, .slice ae m d] ∧ Rz w (.agg #[.bool b, .slice ad n c]) q.num ∧ Dg w .i64 65536 (.slice ae m d) q.den := h
theorem Rn.below {w w' : World} {v : Value} {q : Rat} (h : Rn w v q) (hb : Below w.heap.size w w') : Rn w' v q := by
  obtain ⟨b, ad, n, c, ae, m, d, h1, h2, h3⟩ := h
  exact ⟨b, ad, n, c, ae, m, d, h1, h2.below hb, h3.below hb⟩
theorem Rn.keep {w w' : World} {v : Value} {q : Rat} (h : Rn w v q) (kp : Keep w w') : Rn w' v q := by
  obtain ⟨b, ad, n, c, ae, m, d, h1, h2, h3⟩ := h
  exact ⟨b, ad, n, c, ae, m, d, h1, h2.keep kp, h3.keep kp⟩
def RnPost (w : World) (q : Rat) (e : Ending) (w' : World) : Prop := ∃ v, e = .returned v ∧ Rn w' v q ∧ Below w.heap.size w w'
theorem norm_num {z : Int} {D : Nat} {b : Bool} (hb : b = decide (z < 0)) (h : 0 < D) : sg b (z.natAbs / Nat.gcd z.natAbs D) = (mkRat z D).num ∧ D / Nat.gcd z.natAbs D = (mkRat z D).den := by
  rw [Rat.num_mkRat, Rat.den_mkRat, if_neg (by omega), if_neg (by omega), Nat.gcd_comm D z.natAbs]
  refine ⟨?_, rfl⟩
  have := sg_edvd b (Nat.gcd_dvd_left z.natAbs D)
  rw [hb, sg_dec] at this
  rw [hb]; exact this.symm
theorem Rz.castN {w : World} {v : Value} {z z' : Int} (h : Rz w v z) (e : z = z') : Rz w v z' := by subst e; exact h
theorem Dg.castN {w : World} {k : IntKind} {b : Nat} {v : Value} {N M : Nat} (h : Dg w k b v N) (e : N = M) : Dg w k b v M := e ▸ h
theorem Rn.mk {w : World} {b : Bool} {ad ae : Option Addr} {n c m d : Nat} {z : Int} {N : Nat} {q : Rat} (h1 : Rz w (.agg #[.bool b, .slice ad n c]) z) (h2 : Dg w .i64 65536 (.slice ae m d) N) (e1 : z = q.num) (e2 : N = q.den) : Rn w (.agg #[.bool b, .slice ad n c, .slice ae m d]) q :=
  ⟨b, ad, n, c, ae, m, d, rfl, h1.castN e1, h2.castN e2⟩
/-! ### How many bits -/
theorem dl_le_iff {n k : Nat} : dl 2 n ≤ k ↔ n < 2 ^ k := by
  constructor
  · intro h; exact Nat.lt_of_lt_of_le (lt_dl (by decide) n) (Nat.pow_le_pow_right (by decide) h)
  · intro h; exact dl_le (by decide) h
theorem dl2_shift {T L e : Nat} (hL : L < 2 ^ e) (hT : 0 < T) : dl 2 (T * 2 ^ e + L) = dl 2 T + e := by
  have h1 : dl 2 (T * 2 ^ e + L) ≤ dl 2 T + e := dl_le_iff.2 (by
    have := lt_dl (b := 2) (by decide) T
    have h2 : (T + 1) * 2 ^ e ≤ 2 ^ dl 2 T * 2 ^ e := Nat.mul_le_mul_right _ this
    rw [Nat.pow_add]
    rw [Nat.add_mul] at h2
    omega)
  have h3 : dl 2 T + e ≤ dl 2 (T * 2 ^ e + L) := by
    rcases Nat.lt_or_ge (dl 2 (T * 2 ^ e + L)) (dl 2 T + e) with h | h
    · exfalso
      have h4 := dl_le_iff.1 (Nat.le_refl (dl 2 (T * 2 ^ e + L)))
      have h5 : 2 ^ dl 2 (T * 2 ^ e + L) ≤ 2 ^ (dl 2 T - 1 + e) := Nat.pow_le_pow_right (by decide) (by have := dl_pos (b := 2) (by decide) hT; omega)
      rw [Nat.pow_add] at h5
      have h6 : 2 ^ (dl 2 T - 1) ≤ T := by
        rcases Nat.lt_or_ge T (2 ^ (dl 2 T - 1)) with k | k
        · have := dl_le_iff.2 k
          have := dl_pos (b := 2) (by decide) hT
          omega
        · exact k
      have h7 := Nat.mul_le_mul_right (2 ^ e) h6
      omega
    · exact h
  omega
theorem dl2_half {x : Nat} (h : 0 < x) : dl 2 (x / 2) + 1 = dl 2 x := by
  have e := dl2_shift (T := x / 2) (L := x % 2) (e := 1) (by omega)
  by_cases c : 0 < x / 2
  · have := e c
    rw [show x / 2 * 2 ^ 1 + x % 2 = x by omega] at this
    omega
  · have : x = 1 := by omega
    subst this
    decide +kernel
theorem top_at {w : World} {ad : Option Addr} {n c N : Nat} (h : Dg w .i64 65536 (.slice ad n c) N) (hN : 0 < N) : ∃ b off T L, ad = some ⟨b, off, none⟩ ∧ 0 < n ∧ w.cell? ⟨b, off + (n - 1), none⟩ = some (.int .i64 ((T : Nat) : Int)) ∧ 0 < T ∧ T < 65536 ∧ L < 2 ^ (16 * (n - 1)) ∧ N = T * 2 ^ (16 * (n - 1)) + L ∧ n ≤ 1099511627776 * 1024 := by
  have hp := Dg.lenp (by decide) h hN
  have hl : n = dl 65536 N := h.len
  obtain ⟨ad', cap, h1, ⟨hr⟩, _, hm, _⟩ := h
  have hlen : (dg 65536 N).length = n := by rw [length_dg, hl]
  obtain ⟨b, off, e, _, hc⟩ := hr (n - 1) (by omega)
  have hT := lg_dg (b := 65536) (by decide) N (n - 1)
  have hlt := lt_dl (b := 65536) (by decide) N
  rw [← hl] at hlt
  have hpow : (65536 : Nat) ^ (n - 1) = 2 ^ (16 * (n - 1)) := by rw [Nat.pow_mul]
  have hpp : 0 < (65536 : Nat) ^ (n - 1) := Nat.pow_pos (by decide)
  have hdiv : N / 65536 ^ (n - 1) < 65536 := by
    rw [Nat.div_lt_iff_lt_mul hpp, ← Nat.pow_succ', show (n - 1).succ = n by omega]; exact hlt
  rw [Nat.mod_eq_of_lt hdiv] at hT
  have hpos : 0 < N / 65536 ^ (n - 1) := by
    refine Nat.div_pos ?_ hpp
    rcases Nat.lt_or_ge N (65536 ^ (n - 1)) with k | k
    · have := dl_le (b := 65536) (by decide) k; omega
    · exact k
  refine ⟨b, off, N / 65536 ^ (n - 1), N % 65536 ^ (n - 1), ?_, hp, ?_, hpos, hdiv, ?_, ?_, ?_⟩
  · injection h1 with e1 e2 e3
    rw [e1]; exact e
  · rw [← hT]; exact hc
  · rw [← hpow]; exact Nat.mod_lt _ hpp
  · rw [← hpow]; exact (Nat.div_add_mod' N _).symm
  · unfold maxLen at hm; omega
theorem ix_top {w : World} {b off n c : Nat} (hn : 0 < n) : (Instr.indexAt 35 (.slice (some ⟨b, off, none⟩) n c) (.int .i64 (((n : Nat) : Int) - 1))).run Tryz.prog w = .ok (.pointer (some ⟨b, off + (n - 1), none⟩)) w := by
  have e : (((n : Nat) : Int) - 1).toNat = n - 1 := by omega
  simp [Instr.indexAt, asIntOf, run_underlying Tryz.underlying35, Sem.run_bind, Addr.add_mid, e]
  intro e2; omega
theorem bits_start {N T L n : Nat} (h : N = T * 2 ^ (16 * (n - 1)) + L) (hL : L < 2 ^ (16 * (n - 1))) (hT : 0 < T) (hn : 0 < n) : 16 * (((n : Nat) : Int) - 1) + ((dl 2 T : Nat) : Int) = ((dl 2 N : Nat) : Int) := by
  have := dl2_shift hL hT
  rw [← h] at this; omega
/-! ### A text, read again -/
theorem ci47_app : ∀ (xs ys : List Nat), (∀ x ∈ xs, x ≠ 47) → ci47 (xs ++ 47 :: ys) = xs.length
  | [], _, _ => rfl
  | x :: l, ys, h => by
    show (if x = 47 then 0 else ci47 (l ++ 47 :: ys) + 1) = _
    rw [if_neg (h x List.mem_cons_self), ci47_app l ys fun y hy => h y (List.mem_cons_of_mem _ hy)]
    simp
theorem ci47_no : ∀ (xs : List Nat), (∀ x ∈ xs, x ≠ 47) → ci47 xs = xs.length
  | [], _ => rfl
  | x :: l, h => by
    show (if x = 47 then 0 else ci47 l + 1) = _
    rw [if_neg (h x List.mem_cons_self), ci47_no l fun y hy => h y (List.mem_cons_of_mem _ hy)]
    simp
theorem tx_no47 (z : Int) : ∀ x ∈ tx z, x ≠ 47 := by
  intro x hx
  unfold tx at hx
  split at hx
  · simp at hx; omega
  · rcases List.mem_append.1 hx with h | h
    · split at h
      · simp at h; omega
      · simp at h
    · have h2 := List.mem_reverse.1 h
      unfold asc at h2
      obtain ⟨y, _, e⟩ := List.mem_map.1 h2
      omega
theorem ce_cx {q : Rat} (h1 : dl 10 q.num.natAbs ≤ 1000) (h2 : dl 10 q.den ≤ 1000) : ce (cx q) = 0 ∧ cz (cx q) = q := by
  have p1 := pz_tx h1
  have p2 := pz_tx (z := ((q.den : Nat) : Int)) (by rw [Int.natAbs_natCast]; exact h2)
  have hd := q.den_pos
  by_cases c : q.den = 1
  · have e : cx q = tx q.num := by unfold cx; rw [if_pos c]
    have e1 : ci47 (tx q.num) = (tx q.num).length := ci47_no _ (tx_no47 _)
    have hh : hd47 (tx q.num) = tx q.num := by unfold hd47; rw [e1, List.take_length]
    have hs : has47 (tx q.num) = false := by unfold has47; rw [e1]; exact decide_eq_false (by omega)
    have hc := ce_2 (xs := tx q.num) (by rw [hh, p1.1]; simp) hs
    rw [e, ← hc.1, ← hc.2, hh, p1.2]
    refine ⟨rfl, ?_⟩
    apply Rat.ext
    · simp
    · simp [c]
  · have e : cx q = tx q.num ++ 47 :: tx ((q.den : Nat) : Int) := by unfold cx; rw [if_neg c]; simp
    have e1 : ci47 (tx q.num ++ 47 :: tx ((q.den : Nat) : Int)) = (tx q.num).length := ci47_app _ _ (tx_no47 _)
    have hs : has47 (tx q.num ++ 47 :: tx ((q.den : Nat) : Int)) = true := by unfold has47; rw [e1]; exact decide_eq_true (by simp)
    have hh : hd47 (tx q.num ++ 47 :: tx ((q.den : Nat) : Int)) = tx q.num := by unfold hd47; rw [e1, List.take_left]
    have ht : tl47 (tx q.num ++ 47 :: tx ((q.den : Nat) : Int)) = tx ((q.den : Nat) : Int) := by
      unfold tl47; rw [if_pos hs, e1, List.drop_append]; simp
    have hz : ¬ sz (((q.den : Nat) : Int)) = 0 := fun e => by have := sz_eq0.1 e; omega
    have hz2 : ¬ sz (((q.den : Nat) : Int)) < 0 := by unfold sz; rw [if_neg (by omega), if_neg (by omega)]; omega
    have hc := ce_6 (xs := tx q.num ++ 47 :: tx ((q.den : Nat) : Int)) (by rw [hh, p1.1]; simp) (hast hs) (by rw [ht, p2.1]; simp) (by rw [ht, p2.2]; exact hz2) (by rw [ht, p2.2]; exact hz)
    rw [e, ← hc.1, ← hc.2, hh, ht, p1.2, p2.2]
    refine ⟨rfl, ?_⟩
    rw [Rat.intCast_natCast]
    rw [← Rat.mkRat_eq_div, Rat.mkRat_self]
theorem cx_okb (q : Rat) : okb 256 (cx q) := by
  have t : ∀ z, okb 256 (tx z) := by
    intro z
    unfold tx
    split
    · intro x hx; simp at hx; omega
    · refine okb_append ?_ ?_
      · split
        · intro x hx; simp at hx; omega
        · exact okb_nil _
      · exact fun x hx => asc_okb (okb_dg (by decide) _) x (List.mem_reverse.1 hx)
  unfold cx
  split
  · exact t _
  · exact okb_append (okb_append (t _) (by intro x hx; simp at hx; omega)) (t _)
theorem cx_len {q : Rat} {k : Nat} (h : RLim q k) : (cx q).length ≤ 64 * k + 3 := by
  have h1 := tx_len (lim_pow h.1)
  have h2 := tx_len (z := ((q.den : Nat) : Int)) (M := 32 * k) (by rw [Int.natAbs_natCast]; exact lim_pow h.2)
  unfold cx
  split
  · omega
  · simp only [List.length_append, List.length_cons, List.length_nil]; omega
theorem ce_cxl {q : Rat} {k : Nat} (h : RLim q k) (hk : k ≤ 30) : ce (cx q) = 0 ∧ cz (cx q) = q := ce_cx (Nat.le_trans (dl10_le (lim_pow h.1)) (by omega)) (Nat.le_trans (dl10_le (lim_pow h.2)) (by omega))
theorem c3_one {N : Nat} : c3 N 1 = 0 ↔ ((N : Nat) : Int) = 1 := by
  unfold c3; split
  · constructor <;> intro <;> omega
  · split
    · constructor <;> intro <;> omega
    · constructor <;> intro <;> omega
set_option maxHeartbeats 2000000 in
theorem dNorm_any (v1 : Value) (q1 : Rat) (k : Nat) (w : World) (h1 : Rr w v1 q1 k) (hk : k ≤ 1000) :
    Calls Tryz.prog 93 #[v1] w (RnPost w q1) := by
  have rl1 := h1.rlim
  obtain ⟨b1, ad1, n1, c1, ae1, m1, d1, z1, D1, rfl, hn1, hd1, hD1, hq1, lz1, lD1⟩ := h1.shape
  have h1 : Rr w (.agg #[.bool b1, .slice ad1 n1 c1, .slice ae1 m1 d1]) q1 k := ⟨_, _, _, _, _, _, _, _, _, rfl, hn1, hd1, hD1, hq1, lz1, lD1⟩
  have ha1 := hn1.abs
  have hb1 := hn1.neg
  replace hq1 := Lib.hid hq1
  have bel : Below w.heap.size w w := Below.refl _ _
  refine E.enter (nt := 36) (L := [(0, .agg #[.bool b1, .slice ad1 n1 c1, .slice ae1 m1 d1])]) Tryz.func93 rfl rfl rfl (args_cons (i := 0) rfl args_nil) ?_
  intro a hF
  refine wp_seq ?_
  refine E.seq ?_
  obtain ⟨g1, w1, ge1, hr, bb, o1⟩ := own_box (P := Tryz.prog) (w := w) (cs := [.bool b1, .slice ad1 n1 c1, .slice ae1 m1 d1]) (v := .agg #[.bool b1, .slice ad1 n1 c1, .slice ae1 m1 d1]) 39 rfl (niB (niS (niS ni0)))
  replace ge1 : w.heap.size ≤ g1 := by rw [← ge1]; exact bel.size
  refine E.opv hF (r_box (hF.at 0 rfl) hr) rfl rfl rfl rfl fun a hF => ?_
  clear hr
  replace h1 := h1.below bb
  replace hn1 := hn1.below bb
  replace ha1 := ha1.below bb
  replace hd1 := hd1.below bb
  replace bel := below_to bel bb
  clear bb
  obtain ⟨g2, w2, ge2, hr, bb, o2⟩ := own_alloc (P := Tryz.prog) (w := w1) (cs := [.bool false, .slice none 0 0, .slice none 0 0]) 39 ze_RRat rfl (niB (niS (niS ni0)))
  have ne1_2 : g1 ≠ g2 := by rw [← ge2]; exact o1.ne_new
  replace ge2 : w.heap.size ≤ g2 := by rw [← ge2]; exact bel.size
  refine E.opv hF (r_alloc hr) rfl rfl rfl rfl fun a hF => ?_
  clear hr
  replace ha1 := ha1.below bb
  replace hd1 := hd1.below bb
  replace h1 := h1.below bb
  replace hn1 := hn1.below bb
  replace o1 := o1.below bb
  replace bel := below_to bel bb
  clear bb
  refine E.nil ?_
  refine wp_seq ?_
  refine E.seq ?_
  refine E.opv hF (r_field (hF.at 1 rfl) (fa_RRat_0 (p := 0) rfl)) rfl rfl rfl rfl fun a hF => ?_
  refine E.opv hF (r_field (hF.at 0 rfl) (fa_RInt_1 (p := 1) rfl)) rfl rfl rfl rfl fun a hF => ?_
  refine E.opv hF (r_load (hF.at 0 rfl) (ld_Num (v := .slice ad1 n1 c1) o1 rfl)) rfl rfl rfl rfl fun a hF => ?_
  refine E.opv hF (r_field (hF.at 4 rfl) (fa_RRat_1 (p := 2) rfl)) rfl rfl rfl rfl fun a hF => ?_
  refine E.opv hF (r_load (hF.at 0 rfl) (ld_Num (v := .slice ae1 m1 d1) o1 rfl)) rfl rfl rfl rfl fun a hF => ?_
  refine E.call hF (r_call Tryz.func128 en128.1 en128.2 (map2 (hF.at 2 rfl) (hF.at 0 rfl))) (sgcd_any _ _ (Int.natAbs (z1)) D1 _ ha1 hd1 (Lim.dh lz1 _ (by omega)) (Lim.dh lD1 _ (by omega))) rfl rfl rfl rfl ?_
  rintro e w3 ⟨vv4, rfl, hh5, bb⟩
  refine ⟨_, rfl, ?_⟩
  intro a hF
  replace ha1 := ha1.below bb
  replace hd1 := hd1.below bb
  replace h1 := h1.below bb
  replace hn1 := hn1.below bb
  replace o1 := o1.below bb
  replace o2 := o2.below bb
  replace bel := below_to bel bb
  clear bb
  obtain ⟨ad6, n6, c6, rfl⟩ := Dg.form hh5
  refine E.opv hF (r_assign (hF.at 0 rfl)) rfl rfl rfl rfl fun a hF => ?_
  refine E.nil ?_
  refine wp_seq ?_
  refine E.seq ?_
  refine E.opv hF (r_field (hF.at 8 rfl) (fa_RRat_0 (p := 0) rfl)) rfl rfl rfl rfl fun a hF => ?_
  refine E.opv hF (r_field (hF.at 0 rfl) (fa_RInt_1 (p := 1) rfl)) rfl rfl rfl rfl fun a hF => ?_
  refine E.opv hF (r_load (hF.at 0 rfl) (ld_Num (v := .slice ad1 n1 c1) o1 rfl)) rfl rfl rfl rfl fun a hF => ?_
  refine E.opv hF (r_move (hF.at 3 rfl)) rfl rfl rfl rfl fun a hF => ?_
  refine E.call hF (r_call Tryz.func106 en106.1 en106.2 (map2 (hF.at 1 rfl) (hF.at 0 rfl))) (sdivmod_any _ _ (Int.natAbs (z1)) (Nat.gcd (Int.natAbs (z1)) (D1)) _ ha1 hh5 (Lim.dh lz1 _ (by omega)) (Lim.dh (gcd_limr lD1 hD1) _ (by omega))) rfl rfl rfl rfl ?_
  rintro e w7 ⟨vv8, vv9, rfl, hh10, hh11, bb⟩
  refine ⟨_, rfl, ?_⟩
  intro a hF
  replace hh5 := hh5.below bb
  replace ha1 := ha1.below bb
  replace hd1 := hd1.below bb
  replace h1 := h1.below bb
  replace hn1 := hn1.below bb
  replace o1 := o1.below bb
  replace o2 := o2.below bb
  replace bel := below_to bel bb
  clear bb
  obtain ⟨ad12, n12, c12, rfl⟩ := Dg.form hh10
  obtain ⟨ad13, n13, c13, rfl⟩ := Dg.form hh11
  refine E.opv hF (r_move (hF.at 0 rfl)) rfl rfl rfl rfl fun a hF => ?_
  refine E.opv hF (r_extract (v := .slice ad12 n12 c12) (hF.at 0 rfl) rfl) rfl rfl rfl rfl fun a hF => ?_
  refine E.opv hF (r_extract (v := .slice ad13 n13 c13) (hF.at 1 rfl) rfl) rfl rfl rfl rfl fun a hF => ?_
  refine E.opv hF (r_assign (hF.at 1 rfl)) rfl rfl rfl rfl fun a hF => ?_
  refine E.opv hF (r_assign (hF.at 1 rfl)) rfl rfl rfl rfl fun a hF => ?_
  refine E.nil ?_
  refine wp_seq ?_
  refine E.seq ?_
  refine E.opv hF (r_field (hF.at 18 rfl) (fa_RRat_1 (p := 2) rfl)) rfl rfl rfl rfl fun a hF => ?_
  refine E.opv hF (r_load (hF.at 0 rfl) (ld_Num (v := .slice ae1 m1 d1) o1 rfl)) rfl rfl rfl rfl fun a hF => ?_
  refine E.opv hF (r_move (hF.at 12 rfl)) rfl rfl rfl rfl fun a hF => ?_
  refine E.call hF (r_call Tryz.func106 en106.1 en106.2 (map2 (hF.at 1 rfl) (hF.at 0 rfl))) (sdivmod_any _ _ D1 (Nat.gcd (Int.natAbs (z1)) (D1)) _ hd1 hh5 (Lim.dh lD1 _ (by omega)) (Lim.dh (gcd_limr lD1 hD1) _ (by omega))) rfl rfl rfl rfl ?_
  rintro e w14 ⟨vv15, vv16, rfl, hh17, hh18, bb⟩
  refine ⟨_, rfl, ?_⟩
  intro a hF
  replace hh10 := hh10.below bb
  replace ha1 := ha1.below bb
  replace hd1 := hd1.below bb
  replace h1 := h1.below bb
  replace hn1 := hn1.below bb
  replace o1 := o1.below bb
  replace o2 := o2.below bb
  replace bel := below_to bel bb
  clear bb
  obtain ⟨ad19, n19, c19, rfl⟩ := Dg.form hh17
  obtain ⟨ad20, n20, c20, rfl⟩ := Dg.form hh18
  refine E.opv hF (r_move (hF.at 0 rfl)) rfl rfl rfl rfl fun a hF => ?_
  refine E.opv hF (r_extract (v := .slice ad19 n19 c19) (hF.at 0 rfl) rfl) rfl rfl rfl rfl fun a hF => ?_
  refine E.opv hF (r_extract (v := .slice ad20 n20 c20) (hF.at 1 rfl) rfl) rfl rfl rfl rfl fun a hF => ?_
  refine E.opv hF (r_assign (hF.at 1 rfl)) rfl rfl rfl rfl fun a hF => ?_
  refine E.opv hF (r_assign (hF.at 1 rfl)) rfl rfl rfl rfl fun a hF => ?_
  refine E.nil ?_
  refine wp_seq ?_
  refine E.seq ?_
  refine E.opv hF (r_field (hF.at 27 rfl) (fa_RRat_0 (p := 0) rfl)) rfl rfl rfl rfl fun a hF => ?_
  refine E.opv hF (r_field (hF.at 0 rfl) (fa_RInt_0 (p := 0) rfl)) rfl rfl rfl rfl fun a hF => ?_
  refine E.opv hF (r_load (hF.at 0 rfl) (ld_bool (v := .bool b1) o1 rfl)) rfl rfl rfl rfl fun a hF => ?_
  refine E.opv hF (r_move (hF.at 13 rfl)) rfl rfl rfl rfl fun a hF => ?_
  refine E.call hF (r_call Tryz.func76 en76.1 en76.2 (map2 (hF.at 1 rfl) (hF.at 0 rfl))) (rmake_any _ _ ((Int.natAbs (z1)) / (Nat.gcd (Int.natAbs (z1)) (D1))) _ hh10) rfl rfl rfl rfl ?_
  rintro e w21 ⟨vv22, rfl, hh23, bb⟩
  refine ⟨_, rfl, ?_⟩
  intro a hF
  replace hh17 := hh17.below bb
  replace o2 := o2.below bb
  replace bel := below_to bel bb
  clear bb
  obtain ⟨b24, ad24, n24, c24, rfl⟩ := Rz.form hh23
  refine E.opv hF (r_move (hF.at 6 rfl)) rfl rfl rfl rfl fun a hF => ?_
  refine E.opv hF (r_build (pair2 (hF.at 1 rfl) (hF.at 0 rfl)) (bd_RRat_01 _ _ _ _ _ _ _ _)) rfl rfl rfl rfl fun a hF => ?_
  obtain ⟨w25, hr, tu, on⟩ := st_RRat (vs := [.bool b24, .slice ad24 n24 c24, .slice ad19 n19 c19]) o2 rfl rfl (ocB (ocS (ocS oc0))) (niB (niS (niS ni0))) (o := 0) rfl
  have kp := tu.keep o2
  refine E.st hF (r_store (hF.at 33 rfl) (hF.at 0 rfl) (hr _ rfl)) rfl rfl fun a hF => ?_
  clear hr
  replace hh23 := hh23.keep kp
  replace hh17 := hh17.keep kp
  replace bel := tu.below bel ge2
  clear tu kp
  replace o2 := on
  clear on
  have hf26 := Rz.abs hh23
  refine E.nil ?_
  refine wp_ret ?_
  refine bodyPost_ret (res_cell Tryz.results93 (hF.at 33 rfl) (ld_RRat (vs := [.bool b24, .slice ad24 n24 c24, .slice ad19 n19 c19]) o2 rfl rfl)) hF.dfr ?_
  have hnn := norm_num (z := z1) (D := D1) hb1 hD1
  rw [← hq1.out] at hnn
  exact ⟨_, rfl, Rn.mk hh23 hh17 hnn.1 hnn.2, bel⟩

set_option maxHeartbeats 4000000 in
theorem dbits_any (v1 : Value) (N : Nat) (w : World) (h1 : Dg w .i64 65536 v1 N) :
    Calls Tryz.prog 96 #[v1] w (ValPost w (.int .i64 ((dl 2 N : Nat) : Int))) := by
  obtain ⟨ad1, n1, c1, rfl⟩ := h1.form
  replace h1 : Dg w .i64 65536 (.slice ad1 n1 c1) N := h1
  have hlen := h1.len
  by_cases hN : N = 0
  · have hn10 : n1 = 0 := by rw [hlen, hN]; decide +kernel
    have bel : Below w.heap.size w w := Below.refl _ _
    refine E.enter (nt := 25) (L := [(0, .slice ad1 n1 c1)]) Tryz.func96 rfl rfl rfl (args_cons (i := 0) rfl args_nil) ?_
    intro a hF
    refine wp_seq ?_
    refine E.seq ?_
    refine E.opv hF (r_assign ev_c) rfl rfl rfl rfl fun a hF => ?_
    refine E.nil ?_
    refine wp_seq ?_
    refine wp_seq ?_
    refine E.seq ?_
    refine E.opv hF (r_move (hF.at 1 rfl)) rfl rfl rfl rfl fun a hF => ?_
    refine E.opv hF (r_builtin (map1 (hF.at 0 rfl)) bl_num) rfl rfl rfl rfl fun a hF => ?_
    refine E.opv hF (r_bin (hF.at 0 rfl) ev_c eg_scalar (bi_int (ic_eql (c := true) (dec_tt (by omega))) (by simp))) rfl rfl rfl rfl fun a hF => ?_
    refine E.nil ?_
    refine wp_cond_true (hF.at 0 rfl) ?_
    refine wp_seq ?_
    refine E.seq ?_
    refine E.opset (L' := [(2, .int .i64 0), (7, .bool true), (6, .int .i64 ((n1 : Nat) : Int)), (5, .slice ad1 n1 c1), (0, .slice ad1 n1 c1)]) hF (r_assign ev_c) rfl rfl rfl rfl fun a hF => ?_
    refine E.nil ?_
    refine wp_ret ?_
    refine bodyPost_ret (res_tmp Tryz.results96 (hF.at 0 rfl)) hF.dfr ?_
    exact ⟨rv_int (by rw [hN]; decide +kernel), bel⟩
  · have hN0 : 0 < N := by omega
    have hn11 : 0 < n1 := by have := dl_pos (b := 65536) (by decide) hN0; omega
    have hnm1 : n1 ≤ 1099511627776 * 1024 := (top_at h1 hN0).elim fun _ h => h.elim fun _ h => h.elim fun _ h => h.elim fun _ h => h.2.2.2.2.2.2.2
    have bel : Below w.heap.size w w := Below.refl _ _
    refine E.enter (nt := 25) (L := [(0, .slice ad1 n1 c1)]) Tryz.func96 rfl rfl rfl (args_cons (i := 0) rfl args_nil) ?_
    intro a hF
    refine wp_seq ?_
    refine E.seq ?_
    refine E.opv hF (r_assign ev_c) rfl rfl rfl rfl fun a hF => ?_
    refine E.nil ?_
    refine wp_seq ?_
    refine wp_seq ?_
    refine E.seq ?_
    refine E.opv hF (r_move (hF.at 1 rfl)) rfl rfl rfl rfl fun a hF => ?_
    refine E.opv hF (r_builtin (map1 (hF.at 0 rfl)) bl_num) rfl rfl rfl rfl fun a hF => ?_
    refine E.opv hF (r_bin (hF.at 0 rfl) ev_c eg_scalar (bi_int (ic_eql (c := false) (dec_ff (by omega))) (by simp))) rfl rfl rfl rfl fun a hF => ?_
    refine E.nil ?_
    refine wp_cond_false (hF.at 0 rfl) ?_
    refine wp_skip ?_
    refine E.norm ?_
    refine wp_seq ?_
    refine E.seq ?_
    refine E.opv hF (r_move (hF.at 4 rfl)) rfl rfl rfl rfl fun a hF => ?_
    refine E.opv hF (r_builtin (map1 (hF.at 0 rfl)) bl_num) rfl rfl rfl rfl fun a hF => ?_
    refine E.opv hF (r_bin (hF.at 0 rfl) ev_c eg_scalar (ia_sub (by omega) (by omega))) rfl rfl rfl rfl fun a hF => ?_
    refine E.opv hF (r_bin ev_c (hF.at 0 rfl) eg_scalar (ia_mul (by omega) (by omega))) rfl rfl rfl rfl fun a hF => ?_
    refine E.opv hF (r_assign (hF.at 0 rfl)) rfl rfl rfl rfl fun a hF => ?_
    refine E.nil ?_
    refine wp_seq ?_
    refine wp_seq ?_
    refine E.seq ?_
    refine E.opv hF (r_move (hF.at 9 rfl)) rfl rfl rfl rfl fun a hF => ?_
    refine E.opv hF (r_move (hF.at 10 rfl)) rfl rfl rfl rfl fun a hF => ?_
    refine E.opv hF (r_builtin (map1 (hF.at 0 rfl)) bl_num) rfl rfl rfl rfl fun a hF => ?_
    refine E.opv hF (r_bin (hF.at 0 rfl) ev_c eg_scalar (ia_sub (by omega) (by omega))) rfl rfl rfl rfl fun a hF => ?_
    obtain ⟨gr, og, T, L, hag, hn0, hcl, hT0, hT1, hL, hNT, hnm⟩ := top_at h1 hN0
    have hdN : ((dl 2 N : Nat) : Int) ≤ 16 * ((n1 : Nat) : Int) := by have q1 := bits_start hNT hL hT0 hn0; have q2 := dl_le_iff.2 (show T < 2 ^ 16 from hT1); omega
    refine E.opv hF (r_index (hF.at 3 rfl) (hF.at 0 rfl) (by rw [hag]; exact ix_top hn0)) rfl rfl rfl rfl fun a hF => ?_
    refine E.opv hF (r_load (hF.at 0 rfl) (ldc_int hcl)) rfl rfl rfl rfl fun a hF => ?_
    refine E.opv hF (r_assign (hF.at 0 rfl)) rfl rfl rfl rfl fun a hF => ?_
    refine E.nil ?_
    refine wp_block ?_
    refine E.loop (fun mq a wv => ∃ (X : Nat) (n : Int), X < 65536 ∧ n + ((dl 2 X : Nat) : Int) = ((dl 2 N : Nat) : Int) ∧ 0 ≤ n ∧ dl 2 X ≤ 16 ∧ Fr 25 a [(4, .int .i64 ((X : Nat) : Int)), (3, .int .i64 n), (2, .int .i64 0)] ∧ Below w.heap.size w wv ∧ Below w.heap.size w wv ∧ mq = X) (T) ?_ ?_
    · exact ⟨T, (16 * ((n1 : Int) - 1)), hT1, (bits_start hNT hL hT0 hn0), (by omega), (dl_le_iff.2 hT1), hF.sub (by intro p hp; simp only [List.mem_cons, List.not_mem_nil, or_false] at hp ⊢; rcases hp with rfl | rfl | rfl <;> simp), Below.refl _ _, bel, rfl⟩
    · rintro mq a w1 ⟨X, n, hX, hn, hnb, hdb, hF, sty, bel, hm⟩
      by_cases hX0 : 0 < X
      · have hhalf := dl2_half hX0
        refine wp_seq ?_
        refine wp_seq ?_
        refine E.seq ?_
        refine E.opv hF (r_move (hF.at 0 rfl)) rfl rfl rfl rfl fun a hF => ?_
        refine E.opv hF (r_bin (hF.at 0 rfl) ev_c eg_scalar (bi_int (ic_gtr (c := true) (dec_tt (by omega))) (by simp))) rfl rfl rfl rfl fun a hF => ?_
        refine E.nil ?_
        refine wp_cond_true (hF.at 0 rfl) ?_
        refine wp_skip ?_
        refine E.norm ?_
        refine wp_seq ?_
        refine wp_block ?_
        refine E.seq ?_
        refine E.opv hF (r_move (hF.at 3 rfl)) rfl rfl rfl rfl fun a hF => ?_
        refine E.opv hF (r_bin (hF.at 0 rfl) ev_c eg_scalar (ia_add (by omega) (by omega))) rfl rfl rfl rfl fun a hF => ?_
        refine E.opset (L' := [(3, .int .i64 (n + 1)), (23, .int .i64 (n + 1)), (22, .int .i64 n), (19, .bool true), (18, .int .i64 ((X : Nat) : Int)), (4, .int .i64 ((X : Nat) : Int)), (2, .int .i64 0)]) hF (r_assign (hF.at 0 rfl)) rfl rfl rfl rfl fun a hF => ?_
        refine E.nil0 ?_
        refine E.blk ?_
        refine E.norm ?_
        refine E.seq ?_
        refine E.opv hF (r_move (hF.at 5 rfl)) rfl rfl rfl rfl fun a hF => ?_
        refine E.opv hF (r_bin (hF.at 0 rfl) ev_c eg_scalar (id_quon (a := ((X : Nat) : Int)) (b := 2) (by omega) (by omega) (by omega) (by omega))) rfl rfl rfl rfl fun a hF => ?_
        refine E.opset (L' := [(4, .int .i64 (((X : Nat) : Int) / 2)), (21, .int .i64 (((X : Nat) : Int) / 2)), (20, .int .i64 ((X : Nat) : Int)), (3, .int .i64 (n + 1)), (23, .int .i64 (n + 1)), (22, .int .i64 n), (19, .bool true), (18, .int .i64 ((X : Nat) : Int)), (2, .int .i64 0)]) hF (r_assign (hF.at 0 rfl)) rfl rfl rfl rfl fun a hF => ?_
        refine E.nil0 ?_
        refine E.norm ?_
        exact ⟨X / 2, by omega, ⟨(X / 2), (n + 1), (by omega), (by omega), (by omega), (by omega), (by rw [show ((X / 2 : Nat) : Int) = ((X : Nat) : Int) / 2 from by omega]; exact Fr.sub (L' := [(4, .int .i64 (((X : Nat) : Int) / 2)), (3, .int .i64 (n + 1)), (2, .int .i64 0)]) hF (by intro p hp; simp only [List.mem_cons, List.not_mem_nil, or_false] at hp ⊢; rcases hp with rfl | rfl | rfl <;> simp)), sty, bel, rfl⟩⟩
      · have hz0 : X = 0 := by omega
        rw [hz0, show dl 2 0 = 0 by decide +kernel] at hn
        refine wp_seq ?_
        refine wp_seq ?_
        refine E.seq ?_
        refine E.opv hF (r_move (hF.at 0 rfl)) rfl rfl rfl rfl fun a hF => ?_
        refine E.opv hF (r_bin (hF.at 0 rfl) ev_c eg_scalar (bi_int (ic_gtr (c := false) (dec_ff (by omega))) (by simp))) rfl rfl rfl rfl fun a hF => ?_
        refine E.nil ?_
        refine wp_cond_false (hF.at 0 rfl) ?_
        refine wp_exit ?_
        refine E.past ?_
        refine E.past ?_
        refine E.out (id := 0) ?_
        refine E.norm ?_
        refine wp_seq ?_
        refine E.seq ?_
        refine E.opv hF (r_move (hF.at 3 rfl)) rfl rfl rfl rfl fun a hF => ?_
        refine E.opset (L' := [(2, .int .i64 n), (24, .int .i64 n), (19, .bool false), (18, .int .i64 ((X : Nat) : Int)), (4, .int .i64 ((X : Nat) : Int)), (3, .int .i64 n)]) hF (r_assign (hF.at 0 rfl)) rfl rfl rfl rfl fun a hF => ?_
        refine E.nil ?_
        refine wp_ret ?_
        refine bodyPost_ret (res_tmp Tryz.results96 (hF.at 0 rfl)) hF.dfr ?_
        exact ⟨rv_int (by omega), bel⟩

set_option maxHeartbeats 2000000 in
theorem dBits_any (v1 : Value) (q1 : Rat) (k : Nat) (w : World) (h1 : Rr w v1 q1 k) (hk : k ≤ 1000) :
    Calls Tryz.prog 45 #[v1] w (ValPost w (.int .i64 (max ((dl 2 (Int.natAbs (Rat.num q1)) : Nat) : Int) ((dl 2 (Rat.den q1) : Nat) : Int)))) := by
  have rl1 := h1.rlim
  obtain ⟨b1, ad1, n1, c1, ae1, m1, d1, z1, D1, rfl, hn1, hd1, hD1, hq1, lz1, lD1⟩ := h1.shape
  have h1 : Rr w (.agg #[.bool b1, .slice ad1 n1 c1, .slice ae1 m1 d1]) q1 k := ⟨_, _, _, _, _, _, _, _, _, rfl, hn1, hd1, hD1, hq1, lz1, lD1⟩
  have ha1 := hn1.abs
  have hb1 := hn1.neg
  replace hq1 := Lib.hid hq1
  have bel : Below w.heap.size w w := Below.refl _ _
  refine E.enter (nt := 14) (L := [(0, .agg #[.bool b1, .slice ad1 n1 c1, .slice ae1 m1 d1])]) Tryz.func45 rfl rfl rfl (args_cons (i := 0) rfl args_nil) ?_
  intro a hF
  refine wp_seq ?_
  refine E.seq ?_
  obtain ⟨g1, w1, ge1, hr, bb, o1⟩ := own_box (P := Tryz.prog) (w := w) (cs := [.bool b1, .slice ad1 n1 c1, .slice ae1 m1 d1]) (v := .agg #[.bool b1, .slice ad1 n1 c1, .slice ae1 m1 d1]) 39 rfl (niB (niS (niS ni0)))
  replace ge1 : w.heap.size ≤ g1 := by rw [← ge1]; exact bel.size
  refine E.opv hF (r_box (hF.at 0 rfl) hr) rfl rfl rfl rfl fun a hF => ?_
  clear hr
  replace h1 := h1.below bb
  replace hn1 := hn1.below bb
  replace ha1 := ha1.below bb
  replace hd1 := hd1.below bb
  replace bel := below_to bel bb
  clear bb
  refine E.opv hF (r_assign ev_c) rfl rfl rfl rfl fun a hF => ?_
  refine E.nil ?_
  refine wp_seq ?_
  refine E.seq ?_
  refine E.opv hF (r_load (hF.at 1 rfl) (ld_RRat (vs := [.bool b1, .slice ad1 n1 c1, .slice ae1 m1 d1]) o1 rfl rfl)) rfl rfl rfl rfl fun a hF => ?_
  refine E.call hF (r_call Tryz.func93 en93.1 en93.2 (map1 (hF.at 0 rfl))) (dNorm_any _ (q1) k _ h1 (by omega)) rfl rfl rfl rfl ?_
  rintro e w2 ⟨vv3, rfl, hh4, bb⟩
  refine ⟨_, rfl, ?_⟩
  intro a hF
  replace bel := below_to bel bb
  clear bb
  obtain ⟨b5, ad5, n5, c5, ae5, m5, d5, rfl, hn5, hd5⟩ := Rn.shape hh4
  have ha5 := hn5.abs
  obtain ⟨g3, w6, ge3, hr, bb, o3⟩ := own_alloc (P := Tryz.prog) (w := w2) (cs := [.bool false, .slice none 0 0, .slice none 0 0]) 39 ze_RRat rfl (niB (niS (niS ni0)))
  replace ge3 : w.heap.size ≤ g3 := by rw [← ge3]; exact bel.size
  refine E.opv hF (r_alloc hr) rfl rfl rfl rfl fun a hF => ?_
  clear hr
  replace hh4 := hh4.below bb
  replace hn5 := hn5.below bb
  replace ha5 := ha5.below bb
  replace hd5 := hd5.below bb
  replace bel := below_to bel bb
  clear bb
  obtain ⟨w7, hr, tu, on⟩ := st_RRat (vs := [.bool b5, .slice ad5 n5 c5, .slice ae5 m5 d5]) o3 rfl rfl (ocB (ocS (ocS oc0))) (niB (niS (niS ni0))) (o := 0) rfl
  have kp := tu.keep o3
  refine E.st hF (r_store (hF.at 0 rfl) (hF.at 1 rfl) (hr _ rfl)) rfl rfl fun a hF => ?_
  clear hr
  replace hh4 := hh4.keep kp
  replace hn5 := hn5.keep kp
  replace ha5 := ha5.keep kp
  replace hd5 := hd5.keep kp
  replace bel := tu.below bel ge3
  clear tu kp
  replace o3 := on
  clear on
  refine E.nil ?_
  refine wp_seq ?_
  refine E.drawn 8 mixed hF [6, 7, 8, 9, 10, 11, 12, 13] [(fun _ v => v = .pointer (some ⟨g3, 0, none⟩)), (fun _ v => v = .pointer (some ⟨g3, 1, none⟩)), (fun _ v => v = .slice ad5 n5 c5), (fun _ v => v = .int .i64 ((dl 2 (Int.natAbs (Rat.num (q1))) : Nat) : Int)), (fun _ v => v = .pointer (some ⟨g3, 2, none⟩)), (fun _ v => v = .slice ae5 m5 d5), (fun _ v => v = .int .i64 ((dl 2 (Rat.den (q1)) : Nat) : Int)), (fun _ v => v = .int .i64 (max ((dl 2 (Int.natAbs (Rat.num (q1))) : Nat) : Int) ((dl 2 (Rat.den (q1)) : Nat) : Int)))] [] (by decide +kernel) (by decide +kernel) rfl rfl rfl ⟨(Mb.eq _), (Mb.eq _), (Mb.eq _), (Mb.eq _), (Mb.eq _), (Mb.eq _), (Mb.eq _), (Mb.eq _), trivial⟩ trivial ⟨?_, ?_, ?_, ?_, ?_, ?_, ?_, ?_, trivial⟩ ?_
  · intro a' w' hF' hb hd
    exact if_does (wanted_free rfl) (Does.vals (r_field (hF'.at 0 rfl) (fa_RRat_0 (p := 0) rfl)) ⟨rfl, Below.refl _ _, (fun h => absurd h (by decide))⟩)
  · intro a' w' hF' hb hd
    have e6 : a'.tmps.getD 6 undef = .pointer (some ⟨g3, 0, none⟩) := hd _ 6 (Array.mem_of_getElem? (i := 0) rfl) rfl rfl
    exact if_does (wanted_free rfl) (Does.vals (r_field e6 (fa_RInt_1 (p := 1) rfl)) ⟨rfl, Below.refl _ _, (fun h => absurd h (by decide))⟩)
  · intro a' w' hF' hb hd
    have e7 : a'.tmps.getD 7 undef = .pointer (some ⟨g3, 1, none⟩) := hd _ 7 (Array.mem_of_getElem? (i := 0) rfl) rfl rfl
    exact if_does (wanted_free rfl) (Does.vals (r_load e7 (ld_Num (v := .slice ad5 n5 c5) (o3.below hb) rfl)) ⟨rfl, Below.refl _ _, (fun h => absurd h (by decide))⟩)
  · intro a' w' hF' hb hd
    have e8 : a'.tmps.getD 8 undef = .slice ad5 n5 c5 := hd _ 8 (Array.mem_of_getElem? (i := 0) rfl) rfl rfl
    refine if_does (wanted_free rfl) (Does.calls (r_call Tryz.func96 en96.1 en96.2 (map1 e8)) (dbits_any _ (Int.natAbs (Rat.num (q1))) _ (ha5.below hb)) ?_)
    rintro e w'' ⟨rfl, bb⟩
    exact ⟨_, rfl, rfl, bb, (fun h => absurd h (by decide))⟩
  · intro a' w' hF' hb hd
    exact if_does (wanted_free rfl) (Does.vals (r_field (hF'.at 0 rfl) (fa_RRat_1 (p := 2) rfl)) ⟨rfl, Below.refl _ _, (fun h => absurd h (by decide))⟩)
  · intro a' w' hF' hb hd
    have e10 : a'.tmps.getD 10 undef = .pointer (some ⟨g3, 2, none⟩) := hd _ 10 (Array.mem_of_getElem? (i := 0) rfl) rfl rfl
    exact if_does (wanted_free rfl) (Does.vals (r_load e10 (ld_Num (v := .slice ae5 m5 d5) (o3.below hb) rfl)) ⟨rfl, Below.refl _ _, (fun h => absurd h (by decide))⟩)
  · intro a' w' hF' hb hd
    have e11 : a'.tmps.getD 11 undef = .slice ae5 m5 d5 := hd _ 11 (Array.mem_of_getElem? (i := 0) rfl) rfl rfl
    refine if_does (wanted_free rfl) (Does.calls (r_call Tryz.func96 en96.1 en96.2 (map1 e11)) (dbits_any _ (Rat.den (q1)) _ (hd5.below hb)) ?_)
    rintro e w'' ⟨rfl, bb⟩
    exact ⟨_, rfl, rfl, bb, (fun h => absurd h (by decide))⟩
  · intro a' w' hF' hb hd
    have e9 : a'.tmps.getD 9 undef = .int .i64 ((dl 2 (Int.natAbs (Rat.num (q1))) : Nat) : Int) := hd _ 9 (Array.mem_of_getElem? (i := 0) rfl) rfl rfl
    have e12 : a'.tmps.getD 12 undef = .int .i64 ((dl 2 (Rat.den (q1)) : Nat) : Int) := hd _ 12 (Array.mem_of_getElem? (i := 1) rfl) rfl rfl
    exact if_does (wanted_free rfl) (Does.vals (r_builtin (map2 e9 e12) bl_max) ⟨rfl, Below.refl _ _, (fun h => absurd h (by decide))⟩)
  intro a w8 hF bb hall hne
  have e13 : a.tmps.getD 13 undef = .int .i64 (max ((dl 2 (Int.natAbs (Rat.num (q1))) : Nat) : Int) ((dl 2 (Rat.den (q1)) : Nat) : Int)) := hall 7 13 rfl
  clear hall hne
  replace bel := below_to bel bb
  clear bb
  replace hF := hF.add e13
  clear e13
  refine E.opset (L' := [(2, .int .i64 (max ((dl 2 (Int.natAbs (Rat.num (q1))) : Nat) : Int) ((dl 2 (Rat.den (q1)) : Nat) : Int))), (13, .int .i64 (max ((dl 2 (Int.natAbs (Rat.num (q1))) : Nat) : Int) ((dl 2 (Rat.den (q1)) : Nat) : Int))), (3, .pointer (some ⟨g3, 0, none⟩)), (5, .agg #[.bool b5, .slice ad5 n5 c5, .slice ae5 m5 d5]), (4, .agg #[.bool b1, .slice ad1 n1 c1, .slice ae1 m1 d1]), (1, .pointer (some ⟨g1, 0, none⟩)), (0, .agg #[.bool b1, .slice ad1 n1 c1, .slice ae1 m1 d1])]) hF (r_assign (hF.at 0 rfl)) rfl rfl rfl rfl fun a hF => ?_
  refine E.nil ?_
  refine wp_ret ?_
  refine bodyPost_ret (res_tmp Tryz.results45 (hF.at 0 rfl)) hF.dfr ?_
  exact ⟨rfl, bel⟩

set_option maxHeartbeats 2000000 in
theorem cBits_any (v1 : Value) (q1 : Rat) (w : World) (h1 : Rq w v1 q1) :
    Calls Tryz.prog 44 #[v1] w (ValPost w (.int .i64 (max ((dl 2 (Int.natAbs (Rat.num q1)) : Nat) : Int) ((dl 2 (Rat.den q1) : Nat) : Int)))) := by
  obtain ⟨b1, ad1, n1, c1, ae1, m1, d1, rfl, hn1, hd1⟩ := h1.shape
  have h1 : Rq w (.agg #[.bool b1, .slice ad1 n1 c1, .slice ae1 m1 d1]) q1 := ⟨_, _, _, _, _, _, _, rfl, hn1, hd1⟩
  have ha1 := hn1.abs
  have hb1 := hn1.neg
  have bel : Below w.heap.size w w := Below.refl _ _
  refine E.enter (nt := 11) (L := [(0, .agg #[.bool b1, .slice ad1 n1 c1, .slice ae1 m1 d1])]) Tryz.func44 rfl rfl rfl (args_cons (i := 0) rfl args_nil) ?_
  intro a hF
  refine wp_seq ?_
  refine E.seq ?_
  obtain ⟨g1, w1, ge1, hr, bb, o1⟩ := own_box (P := Tryz.prog) (w := w) (cs := [.bool b1, .slice ad1 n1 c1, .slice ae1 m1 d1]) (v := .agg #[.bool b1, .slice ad1 n1 c1, .slice ae1 m1 d1]) 32 rfl (niB (niS (niS ni0)))
  replace ge1 : w.heap.size ≤ g1 := by rw [← ge1]; exact bel.size
  refine E.opv hF (r_box (hF.at 0 rfl) hr) rfl rfl rfl rfl fun a hF => ?_
  clear hr
  replace h1 := h1.below bb
  replace hn1 := hn1.below bb
  replace ha1 := ha1.below bb
  replace hd1 := hd1.below bb
  replace bel := below_to bel bb
  clear bb
  refine E.opv hF (r_assign ev_c) rfl rfl rfl rfl fun a hF => ?_
  refine E.nil ?_
  refine wp_seq ?_
  refine E.drawn 8 mixed hF [3, 4, 5, 6, 7, 8, 9, 10] [(fun _ v => v = .agg #[.bool b1, .slice ad1 n1 c1, .slice ae1 m1 d1]), (fun w v => Wc w v (Rat.num (q1))), (fun w v => Dg w .u32 B32 v (Int.natAbs (Rat.num (q1)))), (fun _ v => v = .int .i64 (dl 2 (Int.natAbs (Rat.num (q1))) : Nat)), (fun _ v => v = .agg #[.bool b1, .slice ad1 n1 c1, .slice ae1 m1 d1]), (fun w v => Dg w .u32 B32 v (Rat.den (q1))), (fun _ v => v = .int .i64 (dl 2 (Rat.den (q1)) : Nat)), (fun _ v => v = .int .i64 (max (dl 2 (Int.natAbs (Rat.num (q1))) : Nat) (dl 2 (Rat.den (q1)) : Nat)))] [] (by decide +kernel) (by decide +kernel) rfl rfl rfl ⟨(Mb.eq _), (fun _ _ _ h hb => h.below hb), (fun _ _ _ h hb => h.below hb), (Mb.eq _), (Mb.eq _), (fun _ _ _ h hb => h.below hb), (Mb.eq _), (Mb.eq _), trivial⟩ trivial ⟨?_, ?_, ?_, ?_, ?_, ?_, ?_, ?_, trivial⟩ ?_
  · intro a' w' hF' hb hd
    exact if_does (wanted_free rfl) (Does.vals (r_load (hF'.at 1 rfl) (ld_Rat (vs := [.bool b1, .slice ad1 n1 c1, .slice ae1 m1 d1]) (o1.below hb) rfl rfl)) ⟨rfl, Below.refl _ _, (fun h => absurd h (by decide))⟩)
  · intro a' w' hF' hb hd
    have e3 : a'.tmps.getD 3 undef = .agg #[.bool b1, .slice ad1 n1 c1, .slice ae1 m1 d1] := hd _ 3 (Array.mem_of_getElem? (i := 0) rfl) rfl rfl
    refine if_does (wanted_free rfl) (Does.calls (r_call Tryz.func54 en54.1 en54.2 (map1 e3)) (rnum_any _ (q1) _ (h1.below hb)) ?_)
    rintro e w'' ⟨v', rfl, h', bb⟩
    exact ⟨_, rfl, h', bb, (fun h => absurd h (by decide))⟩
  · intro a' w' hF' hb hd
    obtain ⟨v4_0, e4, h4_1⟩ : ∃ v, a'.tmps.getD 4 undef = v ∧ Wc w' v (Rat.num (q1)) := ⟨_, rfl, hd _ 4 (Array.mem_of_getElem? (i := 0) rfl) rfl rfl⟩
    obtain ⟨ad2, n2, c2, rfl, _⟩ := Wc.shape h4_1
    have hf3 := Wc.abs h4_1
    exact if_does (wanted_free rfl) (Does.vals (r_fieldv e4 (fv_Int_1 _ _ _ _ _)) ⟨hf3, Below.refl _ _, (fun h => absurd h (by decide))⟩)
  · intro a' w' hF' hb hd
    obtain ⟨v5, e5, h5⟩ : ∃ v, a'.tmps.getD 5 undef = v ∧ Dg w' .u32 B32 v (Int.natAbs (Rat.num (q1))) := ⟨_, rfl, hd _ 5 (Array.mem_of_getElem? (i := 0) rfl) rfl rfl⟩
    refine if_does (wanted_free rfl) (Does.calls (r_call Tryz.func75 en75.1 en75.2 (map1 e5)) (bits_any _ (Int.natAbs (Rat.num (q1))) _ (Dg.nt h5)) ?_)
    rintro e w'' ⟨rfl, hw⟩
    exact ⟨_, rfl, rfl, by rw [hw]; exact Below.refl _ _, (fun h => absurd h (by decide))⟩
  · intro a' w' hF' hb hd
    exact if_does (wanted_free rfl) (Does.vals (r_load (hF'.at 1 rfl) (ld_Rat (vs := [.bool b1, .slice ad1 n1 c1, .slice ae1 m1 d1]) (o1.below hb) rfl rfl)) ⟨rfl, Below.refl _ _, (fun h => absurd h (by decide))⟩)
  · intro a' w' hF' hb hd
    have e7 : a'.tmps.getD 7 undef = .agg #[.bool b1, .slice ad1 n1 c1, .slice ae1 m1 d1] := hd _ 7 (Array.mem_of_getElem? (i := 0) rfl) rfl rfl
    refine if_does (wanted_free rfl) (Does.calls (r_call Tryz.func73 en73.1 en73.2 (map1 e7)) (rden_any _ (q1) _ (h1.below hb)) ?_)
    rintro e w'' ⟨v', rfl, h', bb⟩
    exact ⟨_, rfl, h', bb, (fun h => absurd h (by decide))⟩
  · intro a' w' hF' hb hd
    obtain ⟨v8_0, e8, h8_1⟩ : ∃ v, a'.tmps.getD 8 undef = v ∧ Dg w' .u32 B32 v (Rat.den (q1)) := ⟨_, rfl, hd _ 8 (Array.mem_of_getElem? (i := 0) rfl) rfl rfl⟩
    refine if_does (wanted_free rfl) (Does.calls (r_call Tryz.func75 en75.1 en75.2 (map1 e8)) (bits_any _ (Rat.den (q1)) _ (Dg.nt h8_1)) ?_)
    rintro e w'' ⟨rfl, hw⟩
    exact ⟨_, rfl, rfl, by rw [hw]; exact Below.refl _ _, (fun h => absurd h (by decide))⟩
  · intro a' w' hF' hb hd
    have e6 : a'.tmps.getD 6 undef = .int .i64 (dl 2 (Int.natAbs (Rat.num (q1))) : Nat) := hd _ 6 (Array.mem_of_getElem? (i := 0) rfl) rfl rfl
    have e9 : a'.tmps.getD 9 undef = .int .i64 (dl 2 (Rat.den (q1)) : Nat) := hd _ 9 (Array.mem_of_getElem? (i := 1) rfl) rfl rfl
    exact if_does (wanted_free rfl) (Does.vals (r_builtin (map2 e6 e9) bl_max) ⟨rfl, Below.refl _ _, (fun h => absurd h (by decide))⟩)
  intro a w4 hF bb hall hne
  have e10 : a.tmps.getD 10 undef = .int .i64 (max (dl 2 (Int.natAbs (Rat.num (q1))) : Nat) (dl 2 (Rat.den (q1)) : Nat)) := hall 7 10 rfl
  clear hall hne
  replace bel := below_to bel bb
  clear bb
  replace hF := hF.add e10
  clear e10
  refine E.opset (L' := [(2, .int .i64 (max (dl 2 (Int.natAbs (Rat.num (q1))) : Nat) (dl 2 (Rat.den (q1)) : Nat))), (10, .int .i64 (max (dl 2 (Int.natAbs (Rat.num (q1))) : Nat) (dl 2 (Rat.den (q1)) : Nat))), (1, .pointer (some ⟨g1, 0, none⟩)), (0, .agg #[.bool b1, .slice ad1 n1 c1, .slice ae1 m1 d1])]) hF (r_assign (hF.at 0 rfl)) rfl rfl rfl rfl fun a hF => ?_
  refine E.nil ?_
  refine wp_ret ?_
  refine bodyPost_ret (res_tmp Tryz.results44 (hF.at 0 rfl)) hF.dfr ?_
  exact ⟨rfl, bel⟩

set_option maxHeartbeats 4000000 in
theorem dText_any (v1 : Value) (q1 : Rat) (k : Nat) (w : World) (h1 : Rr w v1 q1 k) (hk : k ≤ 900) :
    Calls Tryz.prog 43 #[v1] w (ValPost w (.string (bstr (cx q1)))) := by
  have rl1 := h1.rlim
  obtain ⟨b1, ad1, n1, c1, ae1, m1, d1, z1, D1, rfl, hn1, hd1, hD1, hq1, lz1, lD1⟩ := h1.shape
  have h1 : Rr w (.agg #[.bool b1, .slice ad1 n1 c1, .slice ae1 m1 d1]) q1 k := ⟨_, _, _, _, _, _, _, _, _, rfl, hn1, hd1, hD1, hq1, lz1, lD1⟩
  have ha1 := hn1.abs
  have hb1 := hn1.neg
  replace hq1 := Lib.hid hq1
  have ht1 := tx_len (lim_pow rl1.1)
  have ht2 := tx_len (z := ((q1.den : Nat) : Int)) (M := 32 * k) (by rw [Int.natAbs_natCast]; exact lim_pow rl1.2)
  have bel : Below w.heap.size w w := Below.refl _ _
  refine E.enter (nt := 23) (L := [(0, .agg #[.bool b1, .slice ad1 n1 c1, .slice ae1 m1 d1])]) Tryz.func43 rfl rfl rfl (args_cons (i := 0) rfl args_nil) ?_
  intro a hF
  refine wp_seq ?_
  refine E.seq ?_
  obtain ⟨g1, w1, ge1, hr, bb, o1⟩ := own_box (P := Tryz.prog) (w := w) (cs := [.bool b1, .slice ad1 n1 c1, .slice ae1 m1 d1]) (v := .agg #[.bool b1, .slice ad1 n1 c1, .slice ae1 m1 d1]) 39 rfl (niB (niS (niS ni0)))
  replace ge1 : w.heap.size ≤ g1 := by rw [← ge1]; exact bel.size
  refine E.opv hF (r_box (hF.at 0 rfl) hr) rfl rfl rfl rfl fun a hF => ?_
  clear hr
  replace h1 := h1.below bb
  replace hn1 := hn1.below bb
  replace ha1 := ha1.below bb
  replace hd1 := hd1.below bb
  replace bel := below_to bel bb
  clear bb
  refine E.opv hF (r_assign ev_c) rfl rfl rfl rfl fun a hF => ?_
  refine E.nil ?_
  refine wp_seq ?_
  refine E.seq ?_
  refine E.opv hF (r_load (hF.at 1 rfl) (ld_RRat (vs := [.bool b1, .slice ad1 n1 c1, .slice ae1 m1 d1]) o1 rfl rfl)) rfl rfl rfl rfl fun a hF => ?_
  refine E.call hF (r_call Tryz.func93 en93.1 en93.2 (map1 (hF.at 0 rfl))) (dNorm_any _ (q1) k _ h1 (by omega)) rfl rfl rfl rfl ?_
  rintro e w2 ⟨vv3, rfl, hh4, bb⟩
  refine ⟨_, rfl, ?_⟩
  intro a hF
  replace bel := below_to bel bb
  clear bb
  obtain ⟨b5, ad5, n5, c5, ae5, m5, d5, rfl, hn5, hd5⟩ := Rn.shape hh4
  have ha5 := hn5.abs
  obtain ⟨g3, w6, ge3, hr, bb, o3⟩ := own_alloc (P := Tryz.prog) (w := w2) (cs := [.bool false, .slice none 0 0, .slice none 0 0]) 39 ze_RRat rfl (niB (niS (niS ni0)))
  replace ge3 : w.heap.size ≤ g3 := by rw [← ge3]; exact bel.size
  refine E.opv hF (r_alloc hr) rfl rfl rfl rfl fun a hF => ?_
  clear hr
  replace hh4 := hh4.below bb
  replace hn5 := hn5.below bb
  replace ha5 := ha5.below bb
  replace hd5 := hd5.below bb
  replace bel := below_to bel bb
  clear bb
  obtain ⟨w7, hr, tu, on⟩ := st_RRat (vs := [.bool b5, .slice ad5 n5 c5, .slice ae5 m5 d5]) o3 rfl rfl (ocB (ocS (ocS oc0))) (niB (niS (niS ni0))) (o := 0) rfl
  have kp := tu.keep o3
  refine E.st hF (r_store (hF.at 0 rfl) (hF.at 1 rfl) (hr _ rfl)) rfl rfl fun a hF => ?_
  clear hr
  replace hh4 := hh4.keep kp
  replace hn5 := hn5.keep kp
  replace ha5 := ha5.keep kp
  replace hd5 := hd5.keep kp
  replace bel := tu.below bel ge3
  clear tu kp
  replace o3 := on
  clear on
  refine E.nil ?_
  refine wp_seq ?_
  refine wp_seq ?_
  refine E.seq ?_
  refine E.opv hF (r_field (hF.at 0 rfl) (fa_RRat_1 (p := 2) rfl)) rfl rfl rfl rfl fun a hF => ?_
  refine E.opv hF (r_load (hF.at 0 rfl) (ld_Num (v := .slice ae5 m5 d5) o3 rfl)) rfl rfl rfl rfl fun a hF => ?_
  obtain ⟨vv8, w9, hr, bb, hh10⟩ := bs_one w7
  refine E.opv hF (r_buildSlice (qs := #[(0, .int .i64 1)]) (pair1 ev_c) hr) rfl rfl rfl rfl fun a hF => ?_
  clear hr
  replace hd5 := hd5.below bb
  replace ha5 := ha5.below bb
  replace hh4 := hh4.below bb
  replace hn5 := hn5.below bb
  replace o3 := o3.below bb
  replace bel := below_to bel bb
  clear bb
  refine E.call hF (r_call Tryz.func94 en94.1 en94.2 (map2 (hF.at 1 rfl) (hF.at 0 rfl))) (scmp_any _ _ (Rat.den (q1)) 1 _ hd5 hh10) rfl rfl rfl rfl ?_
  intro e w11 hh
  obtain ⟨rfl, bb, hsz⟩ := quiet_below hh
  clear hh hsz
  refine ⟨_, rfl, ?_⟩
  intro a hF
  replace ha5 := ha5.below bb
  replace hd5 := hd5.below bb
  replace hh4 := hh4.below bb
  replace hn5 := hn5.below bb
  replace o3 := o3.below bb
  replace bel := below_to bel bb
  clear bb
  by_cases hc12 : c3 (Rat.den (q1)) (1) = 0
  · refine E.opv hF (r_bin (hF.at 0 rfl) ev_c eg_scalar (bi_int (ic_eql (c := true) (dec_tt hc12)) (by simp))) rfl rfl rfl rfl fun a hF => ?_
    refine E.nil ?_
    refine wp_cond_true (hF.at 0 rfl) ?_
    refine wp_seq ?_
    refine E.seq ?_
    refine E.opv hF (r_field (hF.at 5 rfl) (fa_RRat_0 (p := 0) rfl)) rfl rfl rfl rfl fun a hF => ?_
    refine E.opv hF (r_load (hF.at 0 rfl) (ld_RInt (vs := [.bool b5, .slice ad5 n5 c5]) o3 rfl rfl)) rfl rfl rfl rfl fun a hF => ?_
    refine E.call hF (r_call Tryz.func95 en95.1 en95.2 (map1 (hF.at 0 rfl))) (rtext_any _ (Rat.num (q1)) k _ hn5 (rl1.1) (by omega)) rfl rfl rfl rfl ?_
    rintro e w13 ⟨rfl, bb⟩
    refine ⟨_, rfl, ?_⟩
    intro a hF
    replace ha5 := ha5.below bb
    replace hd5 := hd5.below bb
    replace hh4 := hh4.below bb
    replace hn5 := hn5.below bb
    replace o3 := o3.below bb
    replace bel := below_to bel bb
    clear bb
    refine E.opset (L' := [(2, .string (bstr (tx (Rat.num (q1))))), (13, .string (bstr (tx (Rat.num (q1))))), (12, .agg #[.bool b5, .slice ad5 n5 c5]), (11, .pointer (some ⟨g3, 0, none⟩)), (10, .bool true), (9, .int .i64 (c3 (Rat.den (q1)) (1))), (8, vv8), (7, .slice ae5 m5 d5), (6, .pointer (some ⟨g3, 2, none⟩)), (3, .pointer (some ⟨g3, 0, none⟩)), (5, .agg #[.bool b5, .slice ad5 n5 c5, .slice ae5 m5 d5]), (4, .agg #[.bool b1, .slice ad1 n1 c1, .slice ae1 m1 d1]), (1, .pointer (some ⟨g1, 0, none⟩)), (0, .agg #[.bool b1, .slice ad1 n1 c1, .slice ae1 m1 d1])]) hF (r_assign (hF.at 0 rfl)) rfl rfl rfl rfl fun a hF => ?_
    refine E.nil ?_
    refine wp_ret ?_
    refine bodyPost_ret (res_tmp Tryz.results43 (hF.at 0 rfl)) hF.dfr ?_
    exact ⟨rv_str (cx_one (c3_one.1 hc12)), bel⟩
  · refine E.opv hF (r_bin (hF.at 0 rfl) ev_c eg_scalar (bi_int (ic_eql (c := false) (dec_ff hc12)) (by simp))) rfl rfl rfl rfl fun a hF => ?_
    refine E.nil ?_
    refine wp_cond_false (hF.at 0 rfl) ?_
    refine wp_skip ?_
    refine E.norm ?_
    refine wp_seq ?_
    refine E.drawn 9 mixed hF [14, 15, 16, 17, 18, 19, 20, 21, 22] [(fun _ v => v = .pointer (some ⟨g3, 0, none⟩)), (fun _ v => v = .agg #[.bool b5, .slice ad5 n5 c5]), (fun _ v => v = .string (bstr (tx (Rat.num (q1))))), (fun _ v => v = .string (bstr (tx (Rat.num (q1)) ++ [47]))), (fun _ v => v = .pointer (some ⟨g3, 2, none⟩)), (fun _ v => v = .slice ae5 m5 d5), (fun _ v => v = .agg #[.bool false, .slice ae5 m5 d5]), (fun _ v => v = .string (bstr (tx (((Rat.den (q1) : Nat) : Int))))), (fun _ v => v = .string (bstr ((tx (Rat.num (q1)) ++ [47]) ++ tx (((Rat.den (q1) : Nat) : Int)))))] [] (by decide +kernel) (by decide +kernel) rfl rfl rfl ⟨(Mb.eq _), (Mb.eq _), (Mb.eq _), (Mb.eq _), (Mb.eq _), (Mb.eq _), (Mb.eq _), (Mb.eq _), (Mb.eq _), trivial⟩ trivial ⟨?_, ?_, ?_, ?_, ?_, ?_, ?_, ?_, ?_, trivial⟩ ?_
    · intro a' w' hF' hb hd
      exact if_does (wanted_free rfl) (Does.vals (r_field (hF'.at 5 rfl) (fa_RRat_0 (p := 0) rfl)) ⟨rfl, Below.refl _ _, (fun h => absurd h (by decide))⟩)
    · intro a' w' hF' hb hd
      have e14 : a'.tmps.getD 14 undef = .pointer (some ⟨g3, 0, none⟩) := hd _ 14 (Array.mem_of_getElem? (i := 0) rfl) rfl rfl
      exact if_does (wanted_free rfl) (Does.vals (r_load e14 (ld_RInt (vs := [.bool b5, .slice ad5 n5 c5]) (o3.below hb) rfl rfl)) ⟨rfl, Below.refl _ _, (fun h => absurd h (by decide))⟩)
    · intro a' w' hF' hb hd
      have e15 : a'.tmps.getD 15 undef = .agg #[.bool b5, .slice ad5 n5 c5] := hd _ 15 (Array.mem_of_getElem? (i := 0) rfl) rfl rfl
      refine if_does (wanted_free rfl) (Does.calls (r_call Tryz.func95 en95.1 en95.2 (map1 e15)) (rtext_any _ (Rat.num (q1)) k _ (hn5.below hb) (rl1.1) (by omega)) ?_)
      rintro e w'' ⟨rfl, bb⟩
      exact ⟨_, rfl, rfl, bb, (fun h => absurd h (by decide))⟩
    · intro a' w' hF' hb hd
      have e16 : a'.tmps.getD 16 undef = .string (bstr (tx (Rat.num (q1)))) := hd _ 16 (Array.mem_of_getElem? (i := 0) rfl) rfl rfl
      exact if_does (wanted_free rfl) (Does.vals (r_bin e16 ev_c eg_str (sb_add (xs := tx (Rat.num (q1))) (ys := [47]) (by first | omega | (simp only [List.length_cons, List.length_nil]; omega) | (simp only [List.length_append, List.length_cons, List.length_nil]; omega)))) ⟨rfl, Below.refl _ _, (fun h => absurd h (by decide))⟩)
    · intro a' w' hF' hb hd
      exact if_does (wanted_free rfl) (Does.vals (r_field (hF'.at 5 rfl) (fa_RRat_1 (p := 2) rfl)) ⟨rfl, Below.refl _ _, (fun h => absurd h (by decide))⟩)
    · intro a' w' hF' hb hd
      have e18 : a'.tmps.getD 18 undef = .pointer (some ⟨g3, 2, none⟩) := hd _ 18 (Array.mem_of_getElem? (i := 0) rfl) rfl rfl
      exact if_does (wanted_free rfl) (Does.vals (r_load e18 (ld_Num (v := .slice ae5 m5 d5) (o3.below hb) rfl)) ⟨rfl, Below.refl _ _, (fun h => absurd h (by decide))⟩)
    · intro a' w' hF' hb hd
      have e19 : a'.tmps.getD 19 undef = .slice ae5 m5 d5 := hd _ 19 (Array.mem_of_getElem? (i := 0) rfl) rfl rfl
      exact if_does (wanted_free rfl) (Does.vals (r_build (pair1 e19) (bd_RInt_1 _ _ _ _)) ⟨rfl, Below.refl _ _, (fun h => absurd h (by decide))⟩)
    · intro a' w' hF' hb hd
      have e20 : a'.tmps.getD 20 undef = .agg #[.bool false, .slice ae5 m5 d5] := hd _ 20 (Array.mem_of_getElem? (i := 0) rfl) rfl rfl
      refine if_does (wanted_free rfl) (Does.calls (r_call Tryz.func95 en95.1 en95.2 (map1 e20)) (rtext_any _ (((Rat.den (q1) : Nat) : Int)) k _ (Rz.nat (hd5.below hb)) (lim_cast (rl1.2)) (by omega)) ?_)
      rintro e w'' ⟨rfl, bb⟩
      exact ⟨_, rfl, rfl, bb, (fun h => absurd h (by decide))⟩
    · intro a' w' hF' hb hd
      have e17 : a'.tmps.getD 17 undef = .string (bstr (tx (Rat.num (q1)) ++ [47])) := hd _ 17 (Array.mem_of_getElem? (i := 0) rfl) rfl rfl
      have e21 : a'.tmps.getD 21 undef = .string (bstr (tx (((Rat.den (q1) : Nat) : Int)))) := hd _ 21 (Array.mem_of_getElem? (i := 1) rfl) rfl rfl
      exact if_does (wanted_free rfl) (Does.vals (r_bin e17 e21 eg_str (sb_add (xs := (tx (Rat.num (q1)) ++ [47])) (ys := tx (((Rat.den (q1) : Nat) : Int))) (by first | omega | (simp only [List.length_cons, List.length_nil]; omega) | (simp only [List.length_append, List.length_cons, List.length_nil]; omega)))) ⟨rfl, Below.refl _ _, (fun h => absurd h (by decide))⟩)
    intro a w14 hF bb hall hne
    have e22 : a.tmps.getD 22 undef = .string (bstr ((tx (Rat.num (q1)) ++ [47]) ++ tx (((Rat.den (q1) : Nat) : Int)))) := hall 8 22 rfl
    clear hall hne
    replace bel := below_to bel bb
    clear bb
    replace hF := hF.add e22
    clear e22
    refine E.opset (L' := [(2, .string (bstr ((tx (Rat.num (q1)) ++ [47]) ++ tx (((Rat.den (q1) : Nat) : Int))))), (22, .string (bstr ((tx (Rat.num (q1)) ++ [47]) ++ tx (((Rat.den (q1) : Nat) : Int))))), (10, .bool false), (9, .int .i64 (c3 (Rat.den (q1)) (1))), (8, vv8), (7, .slice ae5 m5 d5), (6, .pointer (some ⟨g3, 2, none⟩)), (3, .pointer (some ⟨g3, 0, none⟩)), (5, .agg #[.bool b5, .slice ad5 n5 c5, .slice ae5 m5 d5]), (4, .agg #[.bool b1, .slice ad1 n1 c1, .slice ae1 m1 d1]), (1, .pointer (some ⟨g1, 0, none⟩)), (0, .agg #[.bool b1, .slice ad1 n1 c1, .slice ae1 m1 d1])]) hF (r_assign (hF.at 0 rfl)) rfl rfl rfl rfl fun a hF => ?_
    refine E.nil ?_
    refine wp_ret ?_
    refine bodyPost_ret (res_tmp Tryz.results43 (hF.at 0 rfl)) hF.dfr ?_
    exact ⟨rv_str (cx_more (fun e => hc12 (c3_one.2 e))), bel⟩

end Go.Proofs.YthoiocjbjfhgpaaGreat
