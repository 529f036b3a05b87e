/- law03: Own, Told, Is. -/
import Derived.Test.YtpkhdajnppoinaaGF
import Derived.Test.YtpkhdajnppoinaaLawI
import Derived.Test.YtpkhdajnppoinaaLawK
import Derived.Deep.RegionHeld3
namespace Go.Proofs.Ytpkhdajnppoinaa
open Go.RowKit
set_option maxRecDepth 100000

/-- A slice of limbs that comes in, by its limbs. -/
structure InX (w : World) (a : Option Addr) (n c : Nat) (xs : List Nat) : Prop where
  len : n = xs.length
  rd : Rd w .u32 a xs
  ok : okb B32 xs
  cap : xs.length ≤ c
  max : c ≤ maxLen
  nil : a = none → c = 0
theorem InX.below {w w' : World} {a : Option Addr} {n c : Nat} {xs : List Nat} (h : InX w a n c xs) (hb : Below w.heap.size w w') : InX w' a n c xs :=
  ⟨h.len, h.rd.below hb, h.ok, h.cap, h.max, h.nil⟩
theorem In32.x {w : World} {a : Option Addr} {n c : Nat} (h : In32 w a n c) : ∃ xs, InX w a n c xs := by
  obtain ⟨xs, h1, h2, h3, h4, h5, h6⟩ := h
  exact ⟨xs, h1, h2, h3, h4, h5, h6⟩
/-- The number of the first m limbs, with a sign. -/
def rawZ (neg : Bool) (xs : List Nat) (m : Nat) : Int := sg neg (vl B32 (xs.take m))
theorem rawZ_lim (neg : Bool) {w : World} {a : Option Addr} {n c : Nat} {xs : List Nat} (h : InX w a n c xs) (m : Nat) : Lim (rawZ neg xs m).natAbs m := by
  unfold rawZ; rw [sg_natAbs]
  exact Lim.of_sq (okb_take h.ok m) (by simp; omega)
theorem few_x (a : Option Addr) (n c m : Nat) (xs : List Nat) (w : World) (h : InX w a n c xs) (hm : m ≤ 1000) :
    Calls Try.prog 100 #[.slice a n c, .int .i64 m] w (SqPost w (xs.take m)) :=
  few_in a n c xs m w h.len h.rd h.cap h.max h.nil hm
theorem Sq.form {w : World} {k : IntKind} {v : Value} {xs : List Nat} (h : Sq w k v xs) : ∃ ad n cap, v = .slice ad n cap := by
  obtain ⟨ad, cap, h1, _⟩ := h
  exact ⟨ad, _, cap, h1⟩
def WzPost (w : World) (z : Int) (e : Ending) (w' : World) : Prop := ∃ v, e = .returned v ∧ Wz w' v z ∧ Below w.heap.size w w'
set_option maxHeartbeats 1000000 in
theorem told_any (neg : Bool) (a : Option Addr) (n c m : Nat) (xs : List Nat) (w : World) (h : InX w a n c xs) (hm : m ≤ 1000) :
    Calls Try.prog 77 #[.agg #[.bool neg, .slice a n c], .int .i64 m] w (RzPost w (rawZ neg xs m)) := by
  have hb0 := ((Below.refl w.heap.size w).alloc (Nat.le_refl _) (.cells #[.bool neg, .slice a n c] 90)).alloc (by first | (simp; done) | (simp; omega) | omega) (.cells #[.bool false, .slice none 0 0] 36)
  have ni9 : NoInt ((w.alloc (.cells #[.bool neg, .slice a n c] 90)).alloc (.cells #[.bool false, .slice none 0 0] 36)) (w.heap.size + 1) := by
    have k0 := NoInt.box (w := (w.alloc (.cells #[.bool neg, .slice a n c] 90))) (l := [.bool false, .slice none 0 0]) (T := 36) (by simp [notInt_bool, notInt_slice])
    have e0 : (w.alloc (.cells #[.bool neg, .slice a n c] 90)).heap.size = (w.heap.size + 1) := by simp
    rw [e0] at k0
    exact k0
  have h' := h.below hb0
  have hne : w.heap.size + 1 ≠ w.heap.size := by omega
  have ok := Lib.hid (okb_take h.ok m)
  have lx : (xs.take m).length ≤ 1073741824 := by simp; omega
  have s00 : (w.alloc (.cells #[.bool neg, .slice a n c] 90)).cell? ⟨w.heap.size, 0, none⟩ = some (.bool neg) := by simp
  replace s00 := (World.cell?_alloc_old (w.alloc (.cells #[.bool neg, .slice a n c] 90)) (.cells #[.bool false, .slice none 0 0] 36) ⟨w.heap.size, 0, none⟩ (by first | (simp; done) | (simp; omega) | omega)).trans s00
  have s01 : (w.alloc (.cells #[.bool neg, .slice a n c] 90)).cell? ⟨w.heap.size, 1, none⟩ = some (.slice a n c) := by simp
  replace s01 := (World.cell?_alloc_old (w.alloc (.cells #[.bool neg, .slice a n c] 90)) (.cells #[.bool false, .slice none 0 0] 36) ⟨w.heap.size, 1, none⟩ (by first | (simp; done) | (simp; omega) | omega)).trans s01
  go_enter Try.func77, Try.ntmps77
  go_wp2_with fail
  have bd := cell_bd s00
  replace h' := h'.below bd
  replace s00 := (bd.cell (p := ⟨w.heap.size, 0, none⟩) (cell_lt s00)).trans s00
  replace s01 := (bd.cell (p := ⟨w.heap.size, 1, none⟩) (cell_lt s01)).trans s01
  have bel := bd
  clear bd
  go_region_held3 (fun w' => w'.cell? ⟨w.heap.size, 0, none⟩ = some (.bool neg) ∧ w'.cell? ⟨w.heap.size, 1, none⟩ = some (.slice a n c)) (first | exact ⟨s00, s01⟩ | go_keep)
    (first
    | (go_at_call 100; refine (few_x _ _ _ m xs _ h' hm).mono ?_; rintro e w1 ⟨v3, rfl, d3, bb⟩; replace h' := h'.below bb; replace s00 := (bb.cell (p := ⟨w.heap.size, 0, none⟩) (cell_lt s00)).trans s00; replace s01 := (bb.cell (p := ⟨w.heap.size, 1, none⟩) (cell_lt s01)).trans s01; replace bel := below_to bel bb; clear bb)
    | (go_at_call 34; refine (sfrom_any _ _ _ d3 ok.out lx).mono ?_; rintro e w2 ⟨v4, rfl, d4, bb⟩; replace h' := h'.below bb; replace d3 := d3.below bb; replace s00 := (bb.cell (p := ⟨w.heap.size, 0, none⟩) (cell_lt s00)).trans s00; replace s01 := (bb.cell (p := ⟨w.heap.size, 1, none⟩) (cell_lt s01)).trans s01; replace bel := below_to bel bb; clear bb)
    | (go_at_call 33; refine (rmake_any _ _ _ _ d4).mono ?_; rintro e w3 ⟨v9, rfl, h9, bb⟩; replace h' := h'.below bb; replace d3 := d3.below bb; replace d4 := d4.below bb; replace s00 := (bb.cell (p := ⟨w.heap.size, 0, none⟩) (cell_lt s00)).trans s00; replace s01 := (bb.cell (p := ⟨w.heap.size, 1, none⟩) (cell_lt s01)).trans s01; replace bel := below_to bel bb; clear bb; obtain ⟨b9, ad9, n9, cap9, rfl⟩ := h9.form; obtain ⟨hc, hf⟩ := bcell bel))
  obtain ⟨bel9, kp⟩ := store2 hb0 (by first | (simp; done) | (simp; omega) | omega) (by first | (simp; done) | (simp; omega) | omega) ni9 bel (.bool b9) (.slice ad9 n9 cap9) (notInt_bool _)
  go_wp2
  exact bodyPost_ret (by simp [results, Try.results77, go_sem, hc]) rfl ⟨_, rfl, kp.rz h9, bel9⟩

end Go.Proofs.Ytpkhdajnppoinaa
