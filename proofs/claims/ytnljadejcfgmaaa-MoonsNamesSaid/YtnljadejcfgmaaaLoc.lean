/- Locals of a region: a call's answer, a block of two cells, the store of the one into the other. -/
import Derived.Test.YtnljadejcfgmaaaInv
import Derived.Test.YtnljadejcfgmaaaLawR
namespace Go.Proofs.Ytnljadejcfgmaaa
open Go.RowKit

section
variable {P : Program} {ops : Array Oper} {Q : Exit → Act → World → Prop}
/-- wp_region_inv, the invariant told of the first state and world. -/
theorem wp_region_inv' {id : Nat} {a : Act} {w : World} (I : Act → World → (Nat → Bool) → Act → World → Prop) (hm : P.follows .mixedOrders = true) (hback : waitsBack ops = true)
    (hbegin : I a w (fun _ => false) a w.drew)
    (hstep : ∀ (d : Nat → Bool) (a' : Act) (w' : World), I a w d a' w' → ∀ (i : Nat) (o : Oper), ops[i]? = some o → d i = false → (∀ e ∈ o.after, Region.binds .any e = true → d e.on = true) →
      ∀ K : Act → World → Prop, (∀ a'' w'', I a w (up d i) a'' w'' → K a'' w'') → if Region.wanted o (yielded ops a'.tmps) = true then Oper.wp P o a' w' K Q else K (a'.put o.dst undef) w')
    (hend : ∀ (d : Nat → Bool) (a' : Act) (w' : World), I a w d a' w' → (∀ i, i < ops.size → d i = true) → Q .normal a' w') :
    (Code.region id ops true).wp P Q a w := wp_region_inv hm hback (I a w) hbegin hstep hend
end

/-- A block of two cells, that no number stands in and that may be written. -/
structure Wri (w : World) (g : Nat) : Prop where
  no : NoInt w g
  lt : g < w.heap.size
  f0 : w.frozen? ⟨g, 0, none⟩ = false
  f1 : w.frozen? ⟨g, 1, none⟩ = false
  c0 : ∃ u, w.cell? ⟨g, 0, none⟩ = some u
  c1 : ∃ u, w.cell? ⟨g, 1, none⟩ = some u
/-- Block g holds this sign and this slice. -/
def Holds (w : World) (g : Nat) (v : Value) : Prop :=
  ∃ (b : Bool) (ad : Option Addr) (n c : Nat), v = .agg #[.bool b, .slice ad n c] ∧ w.cell? ⟨g, 0, none⟩ = some (.bool b) ∧ w.cell? ⟨g, 1, none⟩ = some (.slice ad n c)
theorem Wri.below {w w' : World} {g : Nat} (h : Wri w g) (hb : Below w.heap.size w w') : Wri w' g :=
  ⟨h.no.below h.lt hb, Nat.lt_of_lt_of_le h.lt hb.size, by rw [hb.frozen (p := ⟨g, 0, none⟩) h.lt]; exact h.f0, by rw [hb.frozen (p := ⟨g, 1, none⟩) h.lt]; exact h.f1,
    by rw [hb.cell (p := ⟨g, 0, none⟩) h.lt]; exact h.c0, by rw [hb.cell (p := ⟨g, 1, none⟩) h.lt]; exact h.c1⟩
theorem Holds.below {w w' : World} {g : Nat} {v : Value} (h : Holds w g v) (hg : g < w.heap.size) (hb : Below w.heap.size w w') : Holds w' g v := by
  obtain ⟨b, ad, n, c, h1, h2, h3⟩ := h
  exact ⟨b, ad, n, c, h1, by rw [hb.cell (p := ⟨g, 0, none⟩) hg]; exact h2, by rw [hb.cell (p := ⟨g, 1, none⟩) hg]; exact h3⟩
/-- The store of a sign and a slice. -/
def put2 (w : World) (g : Nat) (u v : Value) : World := (w.setCell ⟨g, 0, none⟩ u).setCell ⟨g, 1, none⟩ v
theorem frozen_setCell (w : World) (a p : Addr) (u : Value) : (w.setCell a u).frozen? p = w.frozen? p := by
  unfold World.frozen? World.setCell
  simp only [Array.getElem?_modify]
  by_cases h : a.block = p.block
  · simp only [h, ↓reduceIte]
    cases hb : w.heap[p.block]? with
    | none => rfl
    | some o => cases o <;> rfl
  · simp only [h, ↓reduceIte]
theorem put2_size (w : World) (g : Nat) (u v : Value) : (put2 w g u v).heap.size = w.heap.size := by simp [put2, World.setCell]
theorem put2_same {w : World} {g : Nat} (h : Wri w g) (u v : Value) : (put2 w g u v).cell? ⟨g, 0, none⟩ = some u ∧ (put2 w g u v).cell? ⟨g, 1, none⟩ = some v := by
  obtain ⟨x, hx⟩ := h.c0
  obtain ⟨y, hy⟩ := h.c1
  unfold put2
  constructor
  · rw [World.cell?_setCell_other _ _ _ _ (by intro e; injection e with _ e2; cases e2)]
    exact World.cell?_setCell_same w _ _ hx
  · refine World.cell?_setCell_same _ _ _ (u := y) ?_
    rw [World.cell?_setCell_other _ _ _ _ (by intro e; injection e with _ e2; cases e2)]
    exact hy
theorem put2_far (w : World) {g h j : Nat} (u v : Value) (hne : g ≠ h) : (put2 w g u v).cell? ⟨h, j, none⟩ = w.cell? ⟨h, j, none⟩ := by
  unfold put2
  rw [World.cell?_setCell_other _ _ _ _ (by intro e; apply hne; injection e), World.cell?_setCell_other _ _ _ _ (by intro e; apply hne; injection e)]
theorem put2_keep {w : World} {g : Nat} (h : Wri w g) {u : Value} (nu : notInt u) (v : Value) : Keep w (put2 w g u v) := (h.no.keep 0 u).trans ((h.no.setCell 0 nu).keep 1 v)
theorem Wri.put2 {w : World} {g : Nat} (h : Wri w g) {u v : Value} (nu : notInt u) (nv : notInt v) : Wri (put2 w g u v) g :=
  ⟨(h.no.setCell 0 nu).setCell 1 nv, by rw [put2_size]; exact h.lt, by unfold Go.Proofs.Ytnljadejcfgmaaa.put2; rw [frozen_setCell, frozen_setCell]; exact h.f0, by unfold Go.Proofs.Ytnljadejcfgmaaa.put2; rw [frozen_setCell, frozen_setCell]; exact h.f1,
    ⟨_, (put2_same h u v).1⟩, ⟨_, (put2_same h u v).2⟩⟩
theorem NoInt.put2_far {w : World} {g h : Nat} (k : NoInt w h) (u v : Value) (hne : g ≠ h) : NoInt (put2 w g u v) h := by
  intro j q n
  rw [Go.Proofs.Ytnljadejcfgmaaa.put2_far w u v hne]
  exact k j q n
theorem Wri.far {w : World} {g h : Nat} (k : Wri w h) (u v : Value) (hne : g ≠ h) : Wri (Go.Proofs.Ytnljadejcfgmaaa.put2 w g u v) h :=
  ⟨k.no.put2_far u v hne, by rw [put2_size]; exact k.lt, by unfold Go.Proofs.Ytnljadejcfgmaaa.put2; rw [frozen_setCell, frozen_setCell]; exact k.f0, by unfold Go.Proofs.Ytnljadejcfgmaaa.put2; rw [frozen_setCell, frozen_setCell]; exact k.f1,
    by rw [put2_far w u v hne]; exact k.c0, by rw [put2_far w u v hne]; exact k.c1⟩
theorem Holds.far {w : World} {g h : Nat} {x : Value} (k : Holds w h x) (u v : Value) (hne : g ≠ h) : Holds (Go.Proofs.Ytnljadejcfgmaaa.put2 w g u v) h x := by
  obtain ⟨b, ad, n, c, h1, h2, h3⟩ := k
  exact ⟨b, ad, n, c, h1, by rw [put2_far w u v hne]; exact h2, by rw [put2_far w u v hne]; exact h3⟩

/-- What is kept wherever rows are. -/
def Mono (R : World → Value → Prop) : Prop := ∀ w w' v, Keep w w' → R w v → R w' v
theorem Mono.wz (z : Int) : Mono (fun w v => Wz w v z) := fun _ _ _ k h => k.wz h
theorem Mono.wc (z : Int) : Mono (fun w v => Wc w v z) := fun _ _ _ k h => k.wc h
theorem Mono.rz (z : Int) : Mono (fun w v => Rz w v z) := fun _ _ _ k h => k.rz h

/-- One local: its call has come up (dc), its block (da), the store (ds); sc: what was answered, sa: where it lies. -/
structure Lo (W w : World) (R : World → Value → Prop) (dc da ds : Bool) (sc sa : Value) : Prop where
  call : dc = true → R w sc
  ord : ds = true → dc = true
  ord2 : ds = true → da = true
  loc : da = true → ∃ g, sa = .pointer (some ⟨g, 0, none⟩) ∧ W.heap.size ≤ g ∧ Wri w g ∧ (ds = true → Holds w g sc)
theorem Lo.start (W w : World) (R : World → Value → Prop) (sc sa : Value) : Lo W w R false false false sc sa :=
  ⟨(fun h => by cases h), (fun h => by cases h), (fun h => by cases h), (fun h => by cases h)⟩
theorem Lo.below {W w w' : World} {R : World → Value → Prop} {dc da ds : Bool} {sc sa : Value} (hR : Mono R) (h : Lo W w R dc da ds sc sa) (hb : Below w.heap.size w w') : Lo W w' R dc da ds sc sa :=
  ⟨fun e => hR _ _ _ (Below.keep hb) (h.call e), h.ord, h.ord2, fun e => by
    obtain ⟨g, h1, h2, h3, h4⟩ := h.loc e
    exact ⟨g, h1, h2, h3.below hb, fun e' => (h4 e').below h3.lt hb⟩⟩
theorem Lo.called {W w w' : World} {R : World → Value → Prop} {da ds : Bool} {sc sa v : Value} (h : Lo W w R false da ds sc sa) (hb : Below w.heap.size w w') (hv : R w' v) : Lo W w' R true da ds v sa := by
  have hds : ds = true → False := fun e => by have := h.ord e; cases this
  refine ⟨fun _ => hv, fun _ => rfl, h.ord2, fun e => ?_⟩
  obtain ⟨g, h1, h2, h3, _⟩ := h.loc e
  exact ⟨g, h1, h2, h3.below hb, fun e' => (hds e').elim⟩
theorem wri_new (w : World) {x y : Value} (T : TypeId) (hx : notInt x) (hy : notInt y) : Wri (w.alloc (.cells #[x, y] T)) w.heap.size := by
  have hc0 : (w.alloc (.cells #[x, y] T)).cell? ⟨w.heap.size, 0, none⟩ = some x := by rw [cell_of_row _ w.heap.size 0 #[x, y] T (0, 0) (heap_alloc_new w (.cells #[x, y] T))]; rfl
  have hc1 : (w.alloc (.cells #[x, y] T)).cell? ⟨w.heap.size, 1, none⟩ = some y := by rw [cell_of_row _ w.heap.size 1 #[x, y] T (0, 0) (heap_alloc_new w (.cells #[x, y] T))]; rfl
  have hb : (w.alloc (.cells #[x, y] T)).heap[w.heap.size]? = some (.cells #[x, y] T) := heap_alloc_new w (.cells #[x, y] T)
  refine ⟨NoInt.box (l := [x, y]) (by intro v hv; simp at hv; rcases hv with rfl | rfl <;> assumption), by simp, ?_, ?_, ⟨_, hc0⟩, ⟨_, hc1⟩⟩
  · unfold World.frozen?; rw [hb]; simp
  · unfold World.frozen?; rw [hb]; simp
theorem Lo.made {W w : World} {R : World → Value → Prop} {dc ds : Bool} {sc sa : Value} {x y : Value} {T : TypeId} (hR : Mono R) (hx : notInt x) (hy : notInt y) (hW : W.heap.size ≤ w.heap.size) (h : Lo W w R dc false ds sc sa) :
    Lo W (w.alloc (.cells #[x, y] T)) R dc true ds sc (.pointer (some ⟨w.heap.size, 0, none⟩)) := by
  have hb := (Below.refl w.heap.size w).alloc (Nat.le_refl _) (.cells #[x, y] T)
  refine ⟨fun e => hR _ _ _ (Below.keep hb) (h.call e), h.ord, fun _ => rfl, fun _ => ⟨w.heap.size, rfl, hW, wri_new w T hx hy, fun e => by have := h.ord2 e; cases this⟩⟩
theorem Lo.stored {W w : World} {R : World → Value → Prop} {ds : Bool} {g : Nat} {b : Bool} {ad : Option Addr} {n c : Nat} (hR : Mono R) (h : Lo W w R true true ds (.agg #[.bool b, .slice ad n c]) (.pointer (some ⟨g, 0, none⟩))) :
    Lo W (put2 w g (.bool b) (.slice ad n c)) R true true true (.agg #[.bool b, .slice ad n c]) (.pointer (some ⟨g, 0, none⟩)) := by
  obtain ⟨g', h1, h2, h3, _⟩ := h.loc rfl
  injection h1 with h1; injection h1 with h1; injection h1 with h1
  subst h1
  exact ⟨fun _ => hR _ _ _ (put2_keep h3 (notInt_bool _) _) (h.call rfl), fun _ => rfl, fun _ => rfl, fun _ => ⟨g, rfl, h2, h3.put2 (notInt_bool _) (notInt_slice _ _ _), fun _ => ⟨b, ad, n, c, rfl, (put2_same h3 _ _).1, (put2_same h3 _ _).2⟩⟩⟩
theorem Lo.far {W w : World} {R : World → Value → Prop} {dc da ds : Bool} {sc sa : Value} {g : Nat} (hR : Mono R) (hg : Wri w g) {u v : Value} (nu : notInt u) (hne : da = true → sa ≠ .pointer (some ⟨g, 0, none⟩)) (h : Lo W w R dc da ds sc sa) : Lo W (put2 w g u v) R dc da ds sc sa := by
  refine ⟨fun e => hR _ _ _ (put2_keep hg nu _) (h.call e), h.ord, h.ord2, fun e => ?_⟩
  obtain ⟨g', h1, h2, h3, h4⟩ := h.loc e
  have hn : g ≠ g' := fun e' => hne e (by rw [h1, e'])
  exact ⟨g', h1, h2, h3.far u v hn, fun e' => (h4 e').far u v hn⟩
theorem Lo.ne_new {W w : World} {R : World → Value → Prop} {dc da ds : Bool} {sc sa : Value} (h : Lo W w R dc da ds sc sa) (e : da = true) : sa ≠ .pointer (some ⟨w.heap.size, 0, none⟩) := by
  obtain ⟨g, h1, _, h3, _⟩ := h.loc e
  intro e'
  rw [h1] at e'
  injection e' with e'; injection e' with e'; injection e' with e'
  exact absurd h3.lt (by omega)
theorem Wz.form {w : World} {v : Value} {z : Int} (h : Wz w v z) : ∃ (b : Bool) (ad : Option Addr) (n cap : Nat), v = .agg #[.bool b, .slice ad n cap] := by
  obtain ⟨b, ad, n, cap, _, h1, _⟩ := h.shape
  exact ⟨b, ad, n, cap, h1⟩
theorem below_put2 {W w : World} {g : Nat} (h : Below W.heap.size W w) (hg : W.heap.size ≤ g) (u v : Value) : Below W.heap.size W (put2 w g u v) :=
  (h.setCell (p := ⟨g, 0, none⟩) hg u).setCell (p := ⟨g, 1, none⟩) hg v
end Go.Proofs.Ytnljadejcfgmaaa
