/- PrD PrE -/
import Derived.Test.YtpkhdajnppoinaaGW
import Derived.Test.YtpkhdajnppoinaaGU
import Derived.Test.YtpkhdajnppoinaaShf

/- digits.Small, Pad; law04's awake. -/
namespace Go.Proofs.Ytpkhdajnppoinaa
open Go.RowKit
set_option maxRecDepth 100000
set_option linter.unusedVariables false

theorem pz_lim (xs : List Nat) : Lim (pz xs).natAbs 106 := by
  unfold pz
  split
  · rename_i h
    refine sg_lim _ ?_
    unfold pe at h
    split at h
    · cases h
    · rename_i h1
      split at h
      · cases h
      · rename_i h2
        refine lim_dv (dig_of ?_) (by omega)
        by_cases e : xs = [48]
        · exact .inl e
        · exact .inr (Classical.byContradiction fun k => h1 ⟨e, k⟩)
  · exact Nat.pow_pos B32_pos
/-- A text as a number of 64 bits; the error's number. -/
def fits (z : Int) : Prop := -9223372036854775808 ≤ z ∧ z ≤ 9223372036854775807
instance (z : Int) : Decidable (fits z) := by unfold fits; infer_instance
def sn (xs : List Nat) : Int := if pe xs ≠ 0 then 0 else if fits (pz xs) then pz xs else 0
def se (xs : List Nat) : Int := if pe xs ≠ 0 then pe xs else if fits (pz xs) then 0 else 5
theorem sn_e {xs : List Nat} (h : pe xs ≠ 0) : (0 : Int) = sn xs ∧ pe xs = se xs := by unfold sn se; rw [if_pos h, if_pos h]; exact ⟨rfl, rfl⟩
theorem sn_f {xs : List Nat} (h : ¬ pe xs ≠ 0) (k : ¬ fits (pz xs)) : (0 : Int) = sn xs ∧ (5 : Int) = se xs := by unfold sn se; rw [if_neg h, if_neg h, if_neg k, if_neg k]; exact ⟨rfl, rfl⟩
theorem sn_t {xs : List Nat} (h : ¬ pe xs ≠ 0) (k : fits (pz xs)) : pz xs = sn xs ∧ (0 : Int) = se xs := by unfold sn se; rw [if_neg h, if_neg h, if_pos k, if_pos k]; exact ⟨rfl, rfl⟩
theorem smallB_t {z : Int} {v : Value} {w : World} (h : Wz w v z) (k : fits z) : Calls Try.prog 45 #[v] w (ValPost w (.tuple #[.int .i64 z, .bool true])) := whSmall_yes v z w h k.1 k.2
theorem smallB_f {z : Int} {v : Value} {w : World} (h : Wz w v z) (k : ¬ fits z) : Calls Try.prog 45 #[v] w (ValPost w (.tuple #[.int .i64 0, .bool false])) := whSmall_no v z w h (by unfold fits at k; omega)
theorem repeat_list (c : Nat) : Lib.repeatL [(48 : UInt8)] c = (List.replicate c 48).map UInt8.ofNat := by
  have := Lib.repeatL_replicate (48 : UInt8) 1 c
  rw [Nat.mul_one] at this
  rw [List.map_replicate]
  exact this
theorem okb_mono {a b : Nat} {xs : List Nat} (h : okb a xs) (hab : a ≤ b) : okb b xs := fun x hx => Nat.lt_of_lt_of_le (h x hx) hab
theorem asc_okb {xs : List Nat} (h : okb 10 xs) : okb 256 (asc xs) := by
  intro x hx
  obtain ⟨y, hy, rfl⟩ := List.mem_map.1 hx
  have := h y hy
  omega
theorem tx_okb (z : Int) : okb 256 (tx z) := by
  unfold tx
  split
  · decide
  · refine okb_append (by split <;> decide) ?_
    intro x hx
    exact asc_okb (okb_dg (by decide) _) x (List.mem_reverse.1 hx)
/-- A number's text with so many digits at least. -/
def padx (n width : Int) : List Nat := (if ng (tx n) = true then [45] else []) ++ (List.replicate (max (min width 20) (((bd (tx n)).length : Nat) : Int) - (((bd (tx n)).length : Nat) : Int)).toNat 48 ++ bd (tx n))
theorem padx_t {n width : Int} (h : ng (tx n) = true) : [45] ++ (List.replicate (max (min width 20) (((bd (tx n)).length : Nat) : Int) - (((bd (tx n)).length : Nat) : Int)).toNat 48 ++ bd (tx n)) = padx n width := by unfold padx; rw [if_pos h]
theorem padx_f {n width : Int} (h : ¬ ng (tx n) = true) : List.replicate (max (min width 20) (((bd (tx n)).length : Nat) : Int) - (((bd (tx n)).length : Nat) : Int)).toNat 48 ++ bd (tx n) = padx n width := by unfold padx; rw [if_neg h]; rfl
theorem wake4a : ((tx (-1200)).map UInt8.ofNat == [45, 49, 50, 48, 48].map UInt8.ofNat) = true := by
  have e : tx (-1200) = [45, 49, 50, 48, 48] := by decide +kernel
  rw [e]; rfl
theorem wake4b : ((padx (-7) 3).map UInt8.ofNat == [45, 48, 48, 55].map UInt8.ofNat) = true := by
  have e : padx (-7) 3 = [45, 48, 48, 55] := by decide +kernel
  rw [e]; rfl
theorem wake4c : sn [45, 49, 50, 48] = -120 := by decide +kernel
theorem wake4d : se [45, 49, 50, 48] = 0 := by decide +kernel
end Go.Proofs.Ytpkhdajnppoinaa

/- Texts and numbers: there and back. -/
namespace Go.Proofs.Ytpkhdajnppoinaa
open Go.RowKit
set_option maxRecDepth 100000
set_option linter.unusedVariables false

theorem vl_dv {xs : List Nat} : ∀ j, j ≤ xs.length → vl 10 ((xs.take j).map (· - 48)).reverse = dv xs j
  | 0, _ => by simp [vl, dv]
  | j + 1, h => by
    have ih := vl_dv (xs := xs) j (by omega)
    have e : xs.take (j + 1) = xs.take j ++ [lg xs j] := by rw [List.take_succ_eq_append_getElem (by omega), lg_get (by omega)]
    rw [e, List.map_append, List.reverse_append]
    show (lg xs j - 48) + 10 * vl 10 ((xs.take j).map (· - 48)).reverse = dv xs j * 10 + (lg xs j - 48)
    rw [ih]; omega
theorem dg_dv {b : List Nat} (hd : ∀ i, i < b.length → 48 ≤ lg b i ∧ lg b i ≤ 57) (hn : b ≠ []) (h0 : lg b 0 ≠ 48) : dg 10 (dv b b.length) = (b.map (· - 48)).reverse := by
  have hv := vl_dv (xs := b) b.length (Nat.le_refl _)
  rw [List.take_length] at hv
  have hp := List.length_pos_iff.2 hn
  have ho : okb 10 (b.map (· - 48)).reverse := by
    intro x hx
    obtain ⟨y, hy, rfl⟩ := List.mem_map.1 (List.mem_reverse.1 hx)
    obtain ⟨i, hi, rfl⟩ := List.getElem_of_mem hy
    have := hd i hi
    rw [lg_get hi] at this
    omega
  have hm : norm (b.map (· - 48)).reverse := by
    intro _
    have e : lg (b.map (· - 48)).reverse ((b.map (· - 48)).reverse.length - 1) = lg b 0 - 48 := by
      have hl : (b.map (· - 48)).reverse.length = b.length := by simp
      rw [hl, lg_get (by rw [hl]; omega), lg_get hp, List.getElem_reverse, List.getElem_map]
      simp
    have := hd 0 hp
    rw [e]; omega
  rw [← hv]
  exact dg_unique (by decide) ho hm
theorem asc_back {b : List Nat} (hd : ∀ i, i < b.length → 48 ≤ lg b i ∧ lg b i ≤ 57) : (asc ((b.map (· - 48)).reverse)).reverse = b := by
  unfold asc
  rw [List.map_reverse, List.reverse_reverse, List.map_map]
  conv => rhs; rw [← List.map_id b]
  apply List.map_congr_left
  intro y hy
  obtain ⟨i, hi, rfl⟩ := List.getElem_of_mem hy
  have := hd i hi
  rw [lg_get hi] at this
  simp only [Function.comp, id]
  omega
theorem dv_pos {b : List Nat} (hd : ∀ i, i < b.length → 48 ≤ lg b i ∧ lg b i ≤ 57) (hn : b ≠ []) (h0 : lg b 0 ≠ 48) : 0 < dv b b.length := by
  apply Nat.pos_of_ne_zero
  intro e
  have h := dg_dv hd hn h0
  rw [e, dg_zero] at h
  have hl := congrArg List.length h
  simp at hl
  exact hn (List.length_eq_zero_iff.1 hl.symm)
theorem sgn_eq (xs : List Nat) : (if ng xs = true then [45] else []) ++ bd xs = xs := by
  unfold ng bd
  by_cases h : List.take 1 xs = [45]
  · rw [decide_eq_true h, if_pos rfl, if_pos h, ← h, List.take_append_drop]
  · rw [decide_eq_false h, if_neg (by decide), if_neg h]; rfl
/-- What is read is written the same. -/
theorem tx_pz {xs : List Nat} (h : pe xs = 0) : tx (pz xs) = xs := by
  unfold pz
  rw [if_pos h]
  by_cases e : xs = [48]
  · subst e; decide +kernel
  · have hp : Plain (bd xs) := by
      unfold pe at h
      split at h
      · cases h
      · rename_i h1
        exact Classical.byContradiction fun k => h1 ⟨e, k⟩
    obtain ⟨hd, hn, h0⟩ := hp
    have hpos := dv_pos hd hn h0
    have ht : (asc (dg 10 (dv (bd xs) (bd xs).length))).reverse = bd xs := by rw [dg_dv hd hn h0]; exact asc_back hd
    unfold tx
    rw [sg_natAbs, ht]
    cases hg : ng xs with
    | true =>
      rw [sg_true, if_neg (by omega), if_pos (by omega)]
      have := sgn_eq xs
      rwa [hg, if_pos rfl] at this
    | false =>
      rw [sg_false, if_neg (by omega), if_neg (by omega)]
      have := sgn_eq xs
      rwa [hg, if_neg (by decide)] at this
/-- So many times one digit, a sign ahead. -/
def rp (n c : Nat) (b : Bool) : List Nat := (if b = true then [45] else []) ++ List.replicate n c
theorem lg_rep {n c i : Nat} (h : i < n) : lg (List.replicate n c) i = c := by
  rw [lg_get (by rw [List.length_replicate]; exact h), List.getElem_replicate]
theorem rp_bd {n c : Nat} {b : Bool} (hc : c ≠ 45) : bd (rp n c b) = List.replicate n c ∧ ng (rp n c b) = b := by
  unfold bd ng rp
  cases b with
  | true => exact ⟨by simp, by simp⟩
  | false =>
    have e : ¬ List.take 1 (List.replicate n c) = [45] := by
      cases n with
      | zero => simp
      | succ k =>
        rw [List.replicate_succ, List.take_succ_cons, List.take_zero]
        intro h
        injection h with h _
        exact hc h
    simp only [Bool.false_eq_true, if_false, List.nil_append]
    exact ⟨if_neg e, decide_eq_false e⟩
theorem rp_plain {n c : Nat} (h1 : 49 ≤ c) (h2 : c ≤ 57) : Plain (List.replicate n c) ↔ 0 < n := by
  constructor
  · intro h
    have := List.length_pos_iff.2 h.2.1
    rwa [List.length_replicate] at this
  · intro h
    refine ⟨fun j hj => ?_, fun e => ?_, ?_⟩
    · rw [List.length_replicate] at hj; rw [lg_rep hj]; omega
    · have := congrArg List.length e
      rw [List.length_replicate] at this
      simp at this; omega
    · rw [lg_rep h]; omega
theorem rp_no48 {n c : Nat} {b : Bool} (h1 : 49 ≤ c) (h2 : c ≤ 57) : rp n c b ≠ [48] := by
  intro e
  unfold rp at e
  cases b with
  | true =>
    rw [if_pos rfl] at e
    injection e with e _
    cases e
  | false =>
    have hm : (48 : Nat) ∈ ((if false = true then [45] else []) ++ List.replicate n c) := by rw [e]; simp
    rw [if_neg (by decide), List.nil_append] at hm
    have := (List.mem_replicate.1 hm).2
    omega
theorem rp_pe {n c : Nat} {b : Bool} (h1 : 49 ≤ c) (h2 : c ≤ 57) : pe (rp n c b) = if n = 0 then 1 else if 1000 < n then 5 else 0 := by
  have e := rp_bd (n := n) (b := b) (show c ≠ 45 by omega)
  unfold pe
  rw [e.1, List.length_replicate]
  by_cases h : n = 0
  · rw [if_pos ⟨rp_no48 h1 h2, fun k => by have := (rp_plain h1 h2).1 k; omega⟩, if_pos h]
  · rw [if_neg (fun k => k.2 ((rp_plain h1 h2).2 (by omega))), if_neg h]
theorem rp_sz {n c : Nat} {b : Bool} (h1 : 49 ≤ c) (h2 : c ≤ 57) (hn : n ≠ 0) (hm : n ≤ 1000) : decide (pz (rp n c b) < 0) = b := by
  have e := rp_bd (n := n) (b := b) (show c ≠ 45 by omega)
  have hp := (rp_plain (n := n) h1 h2).2 (by omega)
  have hpe : pe (rp n c b) = 0 := by rw [rp_pe h1 h2, if_neg hn, if_neg (by omega)]
  unfold pz
  rw [if_pos hpe, e.1, e.2]
  exact sg_neg b (dv_pos hp.1 hp.2.1 hp.2.2)
theorem rp_0 {n c : Nat} {b : Bool} (h1 : 49 ≤ c) (h2 : c ≤ 57) (h : n = 0 ∨ 1000 < n) : pz (rp n c b) = 0 := by
  unfold pz
  rw [rp_pe h1 h2, if_neg]
  split
  · decide
  · rw [if_pos (by omega)]; decide
theorem rp_okb {n c : Nat} {b : Bool} (h2 : c ≤ 57) : okb 256 (rp n c b) := by
  unfold rp
  refine okb_append (by split <;> decide) ?_
  intro x hx
  have := (List.mem_replicate.1 hx).2
  omega
end Go.Proofs.Ytpkhdajnppoinaa
