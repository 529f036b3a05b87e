/- whole.DivMod. -/
import Derived.Test.YtcgbllbhagijjaaDoorWhF
import Derived.Test.YtcgbllbhagijjaaDoorGDc
import Derived.Deep.RegionHeld3
namespace Go.Proofs.YtcgbllbhagijjaaDoor
open Go.RowKit
set_option maxRecDepth 100000

def WdPost (w : World) (z1 z2 : Int) (e : Ending) (w' : World) : Prop := ∃ v1 v2, e = .returned (.tuple #[v1, v2]) ∧ Wc w' v1 (z1.fdiv z2) ∧ Wc w' v2 (fr z1 z2) ∧ Below w.heap.size w w'
theorem NoInt.far {w : World} {g h : Nat} (h1 : NoInt w g) (hne : h ≠ g) (i : Nat) (u : Value) : NoInt (w.setCell ⟨h, i, none⟩ u) g := by
  intro j k n
  rw [World.cell?_setCell_other _ _ _ _ (by intro e; apply hne; injection e)]
  exact h1 j k n
theorem store4 {w W0 w2 : World} {g h : Nat} (hw : Below w.heap.size w W0) (hg : w.heap.size ≤ g) (hh : w.heap.size ≤ h) (hg2 : g < W0.heap.size) (hh2 : h < W0.heap.size) (hne : g ≠ h) (hn : NoInt W0 g) (hn' : NoInt W0 h) (b3 : Below W0.heap.size W0 w2) (u v x y : Value) (nu : notInt u) (nx : notInt x) :
    Below w.heap.size w ((((w2.setCell ⟨g, 0, none⟩ u).setCell ⟨g, 1, none⟩ v).setCell ⟨h, 0, none⟩ x).setCell ⟨h, 1, none⟩ y) ∧ Keep w2 ((((w2.setCell ⟨g, 0, none⟩ u).setCell ⟨g, 1, none⟩ v).setCell ⟨h, 0, none⟩ x).setCell ⟨h, 1, none⟩ y) := by
  have a1 := hn.below hg2 b3
  have a2 := hn'.below hh2 b3
  have a3 := (a2.far hne 0 u).far hne 1 v
  have hb : Below w.heap.size w w2 := hw.trans (b3.mono hw.size)
  exact ⟨(((hb.setCell (p := ⟨g, 0, none⟩) hg u).setCell (p := ⟨g, 1, none⟩) hg v).setCell (p := ⟨h, 0, none⟩) hh x).setCell (p := ⟨h, 1, none⟩) hh y,
    (((a1.keep 0 u).trans ((a1.setCell 0 nu).keep 1 v)).trans (a3.keep 0 x)).trans ((a3.setCell 0 nx).keep 1 y)⟩

end Go.Proofs.YtcgbllbhagijjaaDoor
