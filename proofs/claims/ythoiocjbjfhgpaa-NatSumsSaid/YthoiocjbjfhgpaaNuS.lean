/- How rows of limbs and ints come in. -/
import Derived.Test.YthoiocjbjfhgpaaNuW
import Derived.Test.YthoiocjbjfhgpaaRowIn
import Derived.Deep.Matrix
namespace Go.Proofs.Ythoiocjbjfhgpaa
open Go.RowKit Go.ChangeShapes Go.WideShapes Go.Deep
set_option linter.unusedVariables false

theorem rows_in {H : Type} {enc : TypeId × Value → H} {w : World} {base : Nat} {held : Bool} {v : Value} {d : DataW H} {p : List MemPlace} (h : DataW.Trod enc Try.prog w base (fun _ => true) held 22 v d p) (hv : ∃ a n c, v = .slice a n c) :
    ∃ ad xss cap, v = .slice ad (xss : List (List Nat)).length cap ∧ LIn w ad xss ∧ ∀ i, okb B32 (xss.getD i []) := by
  obtain ⟨sa, sn, sc, rfl⟩ := hv
  obtain ⟨m, hm⟩ := h
  rcases open_int_rows Try.underlying22 Try.underlying26 Try.underlying73 (by kernel_rfl) (by kernel_rfl) hm with ⟨hcs, _⟩ | ⟨a, len, cap, A, L, C, Z, hcs, _, hl, _, _, hr⟩
  · exact ⟨none, [], 0, (List.cons.inj (show [Value.slice sa sn sc] = [_] from hcs)).1, .inl rfl, fun i => by simp [okb_nil]⟩
  · have each : ∀ r, r < len → ∃ xs : List Nat, InX w (A r) (L r) (C r) xs := by
      intro r hr'
      obtain ⟨h1, h2, h3, h4, h5, h6, h7⟩ := hr r (by omega)
      have hrow := row_in (w := w) (a := A r) (len := L r) (cap := C r) (zs := Z r) (by
        cases hA : A r with
        | none =>
          have h0 := h6 hA
          exact .inl ⟨rfl, by omega, h0, List.eq_nil_of_length_eq_zero (by omega)⟩
        | some x => exact .inr ⟨x, rfl, h2, h3, h4, fun i hi => (h7 x hA).2 i (by omega), h5⟩)
      obtain ⟨xs, k1, k2, k3, k4, k5, k6⟩ := hrow
      exact ⟨xs, k1, k2, k3, k4, k5, k6⟩
    have hch : ∃ f : Nat → List Nat, ∀ r, r < len → InX w (A r) (L r) (C r) (f r) := ⟨fun r => if h : r < len then Classical.choose (each r h) else [], fun r h => by simp only [dif_pos h]; exact Classical.choose_spec (each r h)⟩
    obtain ⟨f, hf⟩ := hch
    have hlen : ((List.range len).map f).length = len := by simp
    refine ⟨some a, (List.range len).map f, cap, by rw [hlen]; exact (List.cons.inj (show [Value.slice sa sn sc] = [_] from hcs)).1, ?_, fun i => ?_⟩
    · rcases Nat.eq_zero_or_pos len with h0 | h0
      · exact .inl (by subst h0; rfl)
      · obtain ⟨b, off, spot⟩ := a
        have hspot : spot = none := by simpa [Addr.add] using World.cell?_spot (hr 0 (by omega)).1
        subst hspot
        refine .inr ⟨b, off, rfl, fun i hi => ?_⟩
        rw [hlen] at hi
        refine ⟨A i, L i, C i, ?_, ?_⟩
        · have := (hr i (by omega)).1
          rwa [Addr.add_mid] at this
        · have e : ((List.range len).map f).getD i [] = f i := by simp [List.getD, hi]
          rw [e]; exact hf i hi
    · rcases Nat.lt_or_ge i len with h | h
      · have e : ((List.range len).map f).getD i [] = f i := by simp [List.getD, h]
        rw [e]; exact (hf i h).ok
      · have e : ((List.range len).map f).getD i [] = [] := by simp [List.getD, h]
        rw [e]; exact okb_nil _
theorem ints_in {H : Type} {enc : TypeId × Value → H} {w : World} {base : Nat} {held : Bool} {v : Value} {d : DataW H} {p : List MemPlace} (h : DataW.Trod enc Try.prog w base (fun _ => true) held 23 v d p) (hv : ∃ a n c, v = .slice a n c) :
    ∃ ad n cap, v = .slice ad n cap ∧ OIn w ad n := by
  obtain ⟨sa, sn, sc, rfl⟩ := hv
  obtain ⟨m, hm⟩ := h
  rcases open_ints Try.underlying23 Try.underlying3 (by kernel_rfl) hm with ⟨hcs, _⟩ | ⟨a, len, cap, zs, hcs, _, hl, _, hz, _, hc, _⟩
  · exact ⟨none, 0, 0, (List.cons.inj (show [Value.slice sa sn sc] = [_] from hcs)).1, .inl rfl⟩
  · refine ⟨some a, len, cap, (List.cons.inj (show [Value.slice sa sn sc] = [_] from hcs)).1, ?_⟩
    rcases Nat.eq_zero_or_pos len with h0 | h0
    · exact .inl h0
    · have hzl : len ≤ zs.length := by simp at hz; omega
      obtain ⟨b, off, rfl, hcc⟩ := ints_at hc (by omega)
      exact .inr ⟨b, off, rfl, fun i hi => ⟨_, hcc i (by omega)⟩⟩
end Go.Proofs.Ythoiocjbjfhgpaa
