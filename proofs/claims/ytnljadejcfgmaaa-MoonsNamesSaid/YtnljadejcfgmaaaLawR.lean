/- law03: Own, Told, Is. -/
import Derived.Test.YtnljadejcfgmaaaGF
import Derived.Test.YtnljadejcfgmaaaLawI
import Derived.Test.YtnljadejcfgmaaaLawK
import Derived.Deep.RegionHeld3
namespace Go.Proofs.Ytnljadejcfgmaaa
open Go.RowKit
set_option maxRecDepth 100000

/-- A slice of limbs that comes in, by its limbs. -/
structure InX (w : World) (a : Option Addr) (n c : Nat) (xs : List Nat) : Prop where
  len : n = xs.length
  rd : Rd w .u32 a xs
  ok : okb B32 xs
  cap : xs.length ≤ c
  max : c ≤ maxLen
  nil : a = none → c = 0
theorem InX.below {w w' : World} {a : Option Addr} {n c : Nat} {xs : List Nat} (h : InX w a n c xs) (hb : Below w.heap.size w w') : InX w' a n c xs :=
  ⟨h.len, h.rd.below hb, h.ok, h.cap, h.max, h.nil⟩
theorem In32.x {w : World} {a : Option Addr} {n c : Nat} (h : In32 w a n c) : ∃ xs, InX w a n c xs := by
  obtain ⟨xs, h1, h2, h3, h4, h5, h6⟩ := h
  exact ⟨xs, h1, h2, h3, h4, h5, h6⟩
/-- The number of the first m limbs, with a sign. -/
def rawZ (neg : Bool) (xs : List Nat) (m : Nat) : Int := sg neg (vl B32 (xs.take m))
theorem rawZ_lim (neg : Bool) {w : World} {a : Option Addr} {n c : Nat} {xs : List Nat} (h : InX w a n c xs) (m : Nat) : Lim (rawZ neg xs m).natAbs m := by
  unfold rawZ; rw [sg_natAbs]
  exact Lim.of_sq (okb_take h.ok m) (by simp; omega)
theorem Sq.form {w : World} {k : IntKind} {v : Value} {xs : List Nat} (h : Sq w k v xs) : ∃ ad n cap, v = .slice ad n cap := by
  obtain ⟨ad, cap, h1, _⟩ := h
  exact ⟨ad, _, cap, h1⟩
def WzPost (w : World) (z : Int) (e : Ending) (w' : World) : Prop := ∃ v, e = .returned v ∧ Wz w' v z ∧ Below w.heap.size w w'
end Go.Proofs.Ytnljadejcfgmaaa
