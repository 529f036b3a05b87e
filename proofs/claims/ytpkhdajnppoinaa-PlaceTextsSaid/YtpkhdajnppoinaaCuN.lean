/- The document's texts and bits. -/
import Derived.Test.YtpkhdajnppoinaaCuC
import Derived.Test.YtpkhdajnppoinaaRrL
import Derived.Test.YtpkhdajnppoinaaPrH
namespace Go.Proofs.Ytpkhdajnppoinaa
open Go.RowKit
set_option maxRecDepth 100000
set_option linter.unusedVariables false

/-- The document's rational number in lowest terms. -/
def Rn (w : World) (v : Value) (q : Rat) : Prop :=
  ∃ b ad n c ae m d, v = .agg #[.bool b, .slice ad n c, .slice ae m d] ∧ Rz w (.agg #[.bool b, .slice ad n c]) q.num ∧ Dg w .i64 65536 (.slice ae m d) q.den
theorem Rn.shape {w : World} {v : Value} {q : Rat} (h : Rn w v q) : ∃ b ad n c ae m d, v = .agg #[.bool b, .slice ad n c, .slice ae m d] ∧ Rz w (.agg #[.bool b, .slice ad n c]) q.num ∧ Dg w .i64 65536 (.slice ae m d) q.den := h
theorem Rn.below {w w' : World} {v : Value} {q : Rat} (h : Rn w v q) (hb : Below w.heap.size w w') : Rn w' v q := by
  obtain ⟨b, ad, n, c, ae, m, d, h1, h2, h3⟩ := h
  exact ⟨b, ad, n, c, ae, m, d, h1, h2.below hb, h3.below hb⟩
theorem Rn.keep {w w' : World} {v : Value} {q : Rat} (h : Rn w v q) (kp : Keep w w') : Rn w' v q := by
  obtain ⟨b, ad, n, c, ae, m, d, h1, h2, h3⟩ := h
  exact ⟨b, ad, n, c, ae, m, d, h1, h2.keep kp, h3.keep kp⟩
def RnPost (w : World) (q : Rat) (e : Ending) (w' : World) : Prop := ∃ v, e = .returned v ∧ Rn w' v q ∧ Below w.heap.size w w'
theorem norm_num {z : Int} {D : Nat} {b : Bool} (hb : b = decide (z < 0)) (h : 0 < D) : sg b (z.natAbs / Nat.gcd z.natAbs D) = (mkRat z D).num ∧ D / Nat.gcd z.natAbs D = (mkRat z D).den := by
  rw [Rat.num_mkRat, Rat.den_mkRat, if_neg (by omega), if_neg (by omega), Nat.gcd_comm D z.natAbs]
  refine ⟨?_, rfl⟩
  have := sg_edvd b (Nat.gcd_dvd_left z.natAbs D)
  rw [hb, sg_dec] at this
  rw [hb]; exact this.symm
theorem Rz.castN {w : World} {v : Value} {z z' : Int} (h : Rz w v z) (e : z = z') : Rz w v z' := by subst e; exact h
theorem Dg.castN {w : World} {k : IntKind} {b : Nat} {v : Value} {N M : Nat} (h : Dg w k b v N) (e : N = M) : Dg w k b v M := e ▸ h
theorem Rn.mk {w : World} {b : Bool} {ad ae : Option Addr} {n c m d : Nat} {z : Int} {N : Nat} {q : Rat} (h1 : Rz w (.agg #[.bool b, .slice ad n c]) z) (h2 : Dg w .i64 65536 (.slice ae m d) N) (e1 : z = q.num) (e2 : N = q.den) : Rn w (.agg #[.bool b, .slice ad n c, .slice ae m d]) q :=
  ⟨b, ad, n, c, ae, m, d, rfl, h1.castN e1, h2.castN e2⟩
/-! ### How many bits -/
theorem dl_le_iff {n k : Nat} : dl 2 n ≤ k ↔ n < 2 ^ k := by
  constructor
  · intro h; exact Nat.lt_of_lt_of_le (lt_dl (by decide) n) (Nat.pow_le_pow_right (by decide) h)
  · intro h; exact dl_le (by decide) h
theorem dl2_shift {T L e : Nat} (hL : L < 2 ^ e) (hT : 0 < T) : dl 2 (T * 2 ^ e + L) = dl 2 T + e := by
  have h1 : dl 2 (T * 2 ^ e + L) ≤ dl 2 T + e := dl_le_iff.2 (by
    have := lt_dl (b := 2) (by decide) T
    have h2 : (T + 1) * 2 ^ e ≤ 2 ^ dl 2 T * 2 ^ e := Nat.mul_le_mul_right _ this
    rw [Nat.pow_add]
    rw [Nat.add_mul] at h2
    omega)
  have h3 : dl 2 T + e ≤ dl 2 (T * 2 ^ e + L) := by
    rcases Nat.lt_or_ge (dl 2 (T * 2 ^ e + L)) (dl 2 T + e) with h | h
    · exfalso
      have h4 := dl_le_iff.1 (Nat.le_refl (dl 2 (T * 2 ^ e + L)))
      have h5 : 2 ^ dl 2 (T * 2 ^ e + L) ≤ 2 ^ (dl 2 T - 1 + e) := Nat.pow_le_pow_right (by decide) (by have := dl_pos (b := 2) (by decide) hT; omega)
      rw [Nat.pow_add] at h5
      have h6 : 2 ^ (dl 2 T - 1) ≤ T := by
        rcases Nat.lt_or_ge T (2 ^ (dl 2 T - 1)) with k | k
        · have := dl_le_iff.2 k
          have := dl_pos (b := 2) (by decide) hT
          omega
        · exact k
      have h7 := Nat.mul_le_mul_right (2 ^ e) h6
      omega
    · exact h
  omega
theorem dl2_half {x : Nat} (h : 0 < x) : dl 2 (x / 2) + 1 = dl 2 x := by
  have e := dl2_shift (T := x / 2) (L := x % 2) (e := 1) (by omega)
  by_cases c : 0 < x / 2
  · have := e c
    rw [show x / 2 * 2 ^ 1 + x % 2 = x by omega] at this
    omega
  · have : x = 1 := by omega
    subst this
    decide +kernel
theorem top_at {w : World} {ad : Option Addr} {n c N : Nat} (h : Dg w .i64 65536 (.slice ad n c) N) (hN : 0 < N) : ∃ b off T L, ad = some ⟨b, off, none⟩ ∧ 0 < n ∧ w.cell? ⟨b, off + (n - 1), none⟩ = some (.int .i64 ((T : Nat) : Int)) ∧ 0 < T ∧ T < 65536 ∧ L < 2 ^ (16 * (n - 1)) ∧ N = T * 2 ^ (16 * (n - 1)) + L ∧ n ≤ 1099511627776 * 1024 := by
  have hp := Dg.lenp (by decide) h hN
  have hl : n = dl 65536 N := h.len
  obtain ⟨ad', cap, h1, ⟨hr⟩, _, hm, _⟩ := h
  have hlen : (dg 65536 N).length = n := by rw [length_dg, hl]
  obtain ⟨b, off, e, _, hc⟩ := hr (n - 1) (by omega)
  have hT := lg_dg (b := 65536) (by decide) N (n - 1)
  have hlt := lt_dl (b := 65536) (by decide) N
  rw [← hl] at hlt
  have hpow : (65536 : Nat) ^ (n - 1) = 2 ^ (16 * (n - 1)) := by rw [Nat.pow_mul]
  have hpp : 0 < (65536 : Nat) ^ (n - 1) := Nat.pow_pos (by decide)
  have hdiv : N / 65536 ^ (n - 1) < 65536 := by
    rw [Nat.div_lt_iff_lt_mul hpp, ← Nat.pow_succ', show (n - 1).succ = n by omega]; exact hlt
  rw [Nat.mod_eq_of_lt hdiv] at hT
  have hpos : 0 < N / 65536 ^ (n - 1) := by
    refine Nat.div_pos ?_ hpp
    rcases Nat.lt_or_ge N (65536 ^ (n - 1)) with k | k
    · have := dl_le (b := 65536) (by decide) k; omega
    · exact k
  refine ⟨b, off, N / 65536 ^ (n - 1), N % 65536 ^ (n - 1), ?_, hp, ?_, hpos, hdiv, ?_, ?_, ?_⟩
  · injection h1 with e1 e2 e3
    rw [e1]; exact e
  · rw [← hT]; exact hc
  · rw [← hpow]; exact Nat.mod_lt _ hpp
  · rw [← hpow]; exact (Nat.div_add_mod' N _).symm
  · unfold maxLen at hm; omega
theorem ix_top {w : World} {b off n c : Nat} (hn : 0 < n) : (Instr.indexAt 34 (.slice (some ⟨b, off, none⟩) n c) (.int .i64 (((n : Nat) : Int) - 1))).run Try.prog w = .ok (.pointer (some ⟨b, off + (n - 1), none⟩)) w := by
  have e : (((n : Nat) : Int) - 1).toNat = n - 1 := by omega
  simp [Instr.indexAt, asIntOf, run_underlying Try.underlying34, Sem.run_bind, Addr.add_mid, e]
  intro e2; omega
theorem bits_start {N T L n : Nat} (h : N = T * 2 ^ (16 * (n - 1)) + L) (hL : L < 2 ^ (16 * (n - 1))) (hT : 0 < T) (hn : 0 < n) : 16 * (((n : Nat) : Int) - 1) + ((dl 2 T : Nat) : Int) = ((dl 2 N : Nat) : Int) := by
  have := dl2_shift hL hT
  rw [← h] at this; omega
/-! ### A text, read again -/
theorem ci47_app : ∀ (xs ys : List Nat), (∀ x ∈ xs, x ≠ 47) → ci47 (xs ++ 47 :: ys) = xs.length
  | [], _, _ => rfl
  | x :: l, ys, h => by
    show (if x = 47 then 0 else ci47 (l ++ 47 :: ys) + 1) = _
    rw [if_neg (h x List.mem_cons_self), ci47_app l ys fun y hy => h y (List.mem_cons_of_mem _ hy)]
    simp
theorem ci47_no : ∀ (xs : List Nat), (∀ x ∈ xs, x ≠ 47) → ci47 xs = xs.length
  | [], _ => rfl
  | x :: l, h => by
    show (if x = 47 then 0 else ci47 l + 1) = _
    rw [if_neg (h x List.mem_cons_self), ci47_no l fun y hy => h y (List.mem_cons_of_mem _ hy)]
    simp
theorem tx_no47 (z : Int) : ∀ x ∈ tx z, x ≠ 47 := by
  intro x hx
  unfold tx at hx
  split at hx
  · simp at hx; omega
  · rcases List.mem_append.1 hx with h | h
    · split at h
      · simp at h; omega
      · simp at h
    · have h2 := List.mem_reverse.1 h
      unfold asc at h2
      obtain ⟨y, _, e⟩ := List.mem_map.1 h2
      omega
theorem ce_cx {q : Rat} (h1 : dl 10 q.num.natAbs ≤ 1000) (h2 : dl 10 q.den ≤ 1000) : ce (cx q) = 0 ∧ cz (cx q) = q := by
  have p1 := pz_tx h1
  have p2 := pz_tx (z := ((q.den : Nat) : Int)) (by rw [Int.natAbs_natCast]; exact h2)
  have hd := q.den_pos
  by_cases c : q.den = 1
  · have e : cx q = tx q.num := by unfold cx; rw [if_pos c]
    have e1 : ci47 (tx q.num) = (tx q.num).length := ci47_no _ (tx_no47 _)
    have hh : hd47 (tx q.num) = tx q.num := by unfold hd47; rw [e1, List.take_length]
    have hs : has47 (tx q.num) = false := by unfold has47; rw [e1]; exact decide_eq_false (by omega)
    have hc := ce_2 (xs := tx q.num) (by rw [hh, p1.1]; simp) hs
    rw [e, ← hc.1, ← hc.2, hh, p1.2]
    refine ⟨rfl, ?_⟩
    apply Rat.ext
    · simp
    · simp [c]
  · have e : cx q = tx q.num ++ 47 :: tx ((q.den : Nat) : Int) := by unfold cx; rw [if_neg c]; simp
    have e1 : ci47 (tx q.num ++ 47 :: tx ((q.den : Nat) : Int)) = (tx q.num).length := ci47_app _ _ (tx_no47 _)
    have hs : has47 (tx q.num ++ 47 :: tx ((q.den : Nat) : Int)) = true := by unfold has47; rw [e1]; exact decide_eq_true (by simp)
    have hh : hd47 (tx q.num ++ 47 :: tx ((q.den : Nat) : Int)) = tx q.num := by unfold hd47; rw [e1, List.take_left]
    have ht : tl47 (tx q.num ++ 47 :: tx ((q.den : Nat) : Int)) = tx ((q.den : Nat) : Int) := by
      unfold tl47; rw [if_pos hs, e1, List.drop_append]; simp
    have hz : ¬ sz (((q.den : Nat) : Int)) = 0 := fun e => by have := sz_eq0.1 e; omega
    have hz2 : ¬ sz (((q.den : Nat) : Int)) < 0 := by unfold sz; rw [if_neg (by omega), if_neg (by omega)]; omega
    have hc := ce_6 (xs := tx q.num ++ 47 :: tx ((q.den : Nat) : Int)) (by rw [hh, p1.1]; simp) (hast hs) (by rw [ht, p2.1]; simp) (by rw [ht, p2.2]; exact hz2) (by rw [ht, p2.2]; exact hz)
    rw [e, ← hc.1, ← hc.2, hh, ht, p1.2, p2.2]
    refine ⟨rfl, ?_⟩
    rw [Rat.intCast_natCast]
    rw [← Rat.mkRat_eq_div, Rat.mkRat_self]
theorem cx_okb (q : Rat) : okb 256 (cx q) := by
  have t : ∀ z, okb 256 (tx z) := by
    intro z
    unfold tx
    split
    · intro x hx; simp at hx; omega
    · refine okb_append ?_ ?_
      · split
        · intro x hx; simp at hx; omega
        · exact okb_nil _
      · exact fun x hx => asc_okb (okb_dg (by decide) _) x (List.mem_reverse.1 hx)
  unfold cx
  split
  · exact t _
  · exact okb_append (okb_append (t _) (by intro x hx; simp at hx; omega)) (t _)
theorem cx_len {q : Rat} {k : Nat} (h : RLim q k) : (cx q).length ≤ 64 * k + 3 := by
  have h1 := tx_len (lim_pow h.1)
  have h2 := tx_len (z := ((q.den : Nat) : Int)) (M := 32 * k) (by rw [Int.natAbs_natCast]; exact lim_pow h.2)
  unfold cx
  split
  · omega
  · simp only [List.length_append, List.length_cons, List.length_nil]; omega
theorem ce_cxl {q : Rat} {k : Nat} (h : RLim q k) (hk : k ≤ 30) : ce (cx q) = 0 ∧ cz (cx q) = q := ce_cx (Nat.le_trans (dl10_le (lim_pow h.1)) (by omega)) (Nat.le_trans (dl10_le (lim_pow h.2)) (by omega))
theorem c3_one {N : Nat} : c3 N 1 = 0 ↔ ((N : Nat) : Int) = 1 := by
  unfold c3; split
  · constructor <;> intro <;> omega
  · split
    · constructor <;> intro <;> omega
    · constructor <;> intro <;> omega
end Go.Proofs.Ytpkhdajnppoinaa
