/- What a number's value looks like; rows that survive stores elsewhere. -/
import Derived.Test.YtjgafncpahbjkaaLawK
namespace Go.Proofs.Ytjgafncpahbjkaa
open Go.RowKit

theorem Nt.shape {w : World} {v : Value} {N : Nat} (h : Nt w v N) : ∃ ad n cap, v = .slice ad n cap := by
  obtain ⟨xs, _, _, ad, cap, h1, _⟩ := h
  exact ⟨ad, _, cap, h1⟩

/-- Rows of numbers read as they did. -/
def Keep (w w' : World) : Prop := ∀ k ad xs, Rd w k ad xs → Rd w' k ad xs
theorem Keep.refl (w : World) : Keep w w := fun _ _ _ h => h
theorem Keep.trans {a b c : World} (h : Keep a b) (k : Keep b c) : Keep a c := fun _ _ _ r => k _ _ _ (h _ _ _ r)
theorem Below.keep {w w' : World} (h : Below w.heap.size w w') : Keep w w' := fun _ _ _ r => r.below h
theorem Keep.sq {w w' : World} (h : Keep w w') {k : IntKind} {v : Value} {xs : List Nat} (s : Sq w k v xs) : Sq w' k v xs := by
  obtain ⟨ad, cap, h1, h2, h3⟩ := s
  exact ⟨ad, cap, h1, h _ _ _ h2, h3⟩
theorem Keep.dg {w w' : World} (h : Keep w w') {k : IntKind} {b : Nat} {v : Value} {n : Nat} (s : Dg w k b v n) : Dg w' k b v n := h.sq s
theorem Keep.nt {w w' : World} (h : Keep w w') {v : Value} {n : Nat} (s : Nt w v n) : Nt w' v n := by
  obtain ⟨xs, h1, h2, h3⟩ := s
  exact ⟨xs, h1, h2, h.sq h3⟩

/-- No number stands in block g. -/
def NoInt (w : World) (g : Nat) : Prop := ∀ j k n, w.cell? ⟨g, j, none⟩ ≠ some (.int k n)
def notInt (v : Value) : Prop := ∀ k n, v ≠ .int k n
theorem notInt_bool (b : Bool) : notInt (.bool b) := fun _ _ h => by cases h
theorem notInt_slice (a : Option Addr) (n c : Nat) : notInt (.slice a n c) := fun _ _ h => by cases h
theorem NoInt.box {w : World} {l : List Value} {T : TypeId} (hl : ∀ v ∈ l, notInt v) : NoInt (w.alloc (.cells l.toArray T)) w.heap.size := by
  intro j k n h
  rw [cell_of_row _ w.heap.size j l.toArray T (0, 0) (heap_alloc_new w (.cells l.toArray T))] at h
  rw [List.getElem?_toArray] at h
  exact hl _ (List.mem_of_getElem? h) k n rfl
theorem NoInt.below {w w' : World} {g : Nat} (h : NoInt w g) (hg : g < w.heap.size) (hb : Below w.heap.size w w') : NoInt w' g := by
  intro j k n
  rw [hb.cell (p := ⟨g, j, none⟩) hg]
  exact h j k n
theorem cell_setCell_none {w : World} {a : Addr} {u : Value} (h : w.cell? a = none) : (w.setCell a u).cell? a = none := by
  unfold World.cell? at *
  simp only [World.setCell, Array.getElem?_modify, ↓reduceIte]
  cases hb : w.heap[a.block]? with
  | none => rfl
  | some o =>
    rw [hb] at h
    cases o with
    | cells c e f =>
      simp only [Option.map_some] at h ⊢
      by_cases hs : a.spot.isSome
      · simp [hs]
      · simp only [hs] at h ⊢
        simp at h ⊢
        exact h
    | _ => rfl
theorem NoInt.setCell {w : World} {g : Nat} (h : NoInt w g) (i : Nat) {u : Value} (hu : notInt u) : NoInt (w.setCell ⟨g, i, none⟩ u) g := by
  intro j k n hh
  by_cases e : i = j
  · subst e
    cases hv : w.cell? ⟨g, i, none⟩ with
    | none => rw [cell_setCell_none hv] at hh; cases hh
    | some v =>
      rw [World.cell?_setCell_same w ⟨g, i, none⟩ u hv] at hh
      injection hh with hh
      exact hu k n hh
  · rw [World.cell?_setCell_other _ _ _ _ (by intro e'; apply e; injection e')] at hh
    exact h j k n hh
theorem NoInt.keep {w : World} {g : Nat} (h : NoInt w g) (i : Nat) (u : Value) : Keep w (w.setCell ⟨g, i, none⟩ u) := by
  intro k ad xs hr
  refine hr.setCell u (fun b off ha hp => ?_)
  intro e
  obtain ⟨b', off', ha', _, hc⟩ := hr.cell 0 hp
  rw [ha] at ha'
  injection ha' with e1
  injection e1 with e2 e3
  subst e2
  subst e
  exact h _ _ _ hc
/-- What is stored into a result's block, of two cells. -/
theorem store2 {w W0 w2 : World} {g : Nat} (hw : Below w.heap.size w W0) (hg : w.heap.size ≤ g) (hg2 : g < W0.heap.size) (hn : NoInt W0 g) (b3 : Below W0.heap.size W0 w2) (u v : Value) (nu : notInt u) :
    Below w.heap.size w ((w2.setCell ⟨g, 0, none⟩ u).setCell ⟨g, 1, none⟩ v) ∧ Keep w2 ((w2.setCell ⟨g, 0, none⟩ u).setCell ⟨g, 1, none⟩ v) := by
  have hn2 := hn.below hg2 b3
  have hb : Below w.heap.size w w2 := hw.trans (b3.mono hw.size)
  exact ⟨(hb.setCell (p := ⟨g, 0, none⟩) hg u).setCell (p := ⟨g, 1, none⟩) hg v, (hn2.keep 0 u).trans ((hn2.setCell 0 nu).keep 1 v)⟩
end Go.Proofs.Ytjgafncpahbjkaa
