/- The program's head, word by word. -/
import Derived.Test.YtdkmjclbhfnegaaDoorRows
import Derived.WalkKit
import Derived.ProofKit
namespace Go.Proofs.YtdkmjclbhfnegaaDoor
open Go.ChangeShapes Go.WideShapes Go.ChangeAt Go.RowKit
set_option maxHeartbeats 4000000
set_option maxRecDepth 100000

def ioA : List Nat := [104, 97, 114, 110, 101, 115, 115]
def ioB : List Nat := [56, 49, 98, 48, 51, 56, 55, 54, 49, 100, 50, 50, 97, 52, 101, 101, 98, 97, 100, 57, 49, 50, 97, 57, 98, 100, 55, 55, 53, 53, 97, 50, 56, 98, 53, 100, 53, 98, 100, 99, 56, 53, 99, 49, 97, 101, 101, 97, 50, 54, 51, 54, 48, 55, 99, 101, 102, 53, 99, 54, 48, 98, 48, 52]
def ioC : List Nat := [99, 117, 116]
def ioR : List Nat := [97, 116, 32, 101, 112, 104, 101, 109, 101, 114, 105, 115, 47, 101, 112, 104, 101, 109, 101, 114, 105, 115, 108, 97, 119, 50, 55, 46, 87, 111, 114, 100, 115, 78, 97, 109, 101, 115, 32, 101, 112, 104, 101, 109, 101, 114, 105, 115, 47, 101, 112, 104, 101, 109, 101, 114, 105, 115, 108, 97, 119, 50, 55, 46, 87, 111, 114, 100, 115, 70, 105, 110, 100, 115, 32, 101, 112, 104, 101, 109, 101, 114, 105, 115, 47, 101, 112, 104, 101, 109, 101, 114, 105, 115, 108, 97, 119, 50, 55, 46, 87, 111, 114, 100, 115, 66, 97, 99, 107]
def sp : Char := Char.ofNat 32
theorem words_split (r : List Char) : ∀ w : List Char, w.all (fun c => !(c == sp)) = true → wordsSigns (w ++ sp :: r) = w :: wordsSigns r
  | [], _ => rfl
  | c :: w, h => by
    simp only [List.all_cons, Bool.and_eq_true, Bool.not_eq_true', beq_eq_false_iff_ne] at h
    have ih := words_split r w h.2
    rw [List.cons_append, wordsSigns.eq_3 _ _ (by exact h.1), ih]
theorem io_eq : Tryd.prog.initOrder = String.ofList (ioA.map Char.ofNat ++ sp :: (ioB.map Char.ofNat ++ sp :: (ioC.map Char.ofNat ++ sp :: ioR.map Char.ofNat))) := by kernel_rfl
theorem io_words : wordsSigns Tryd.prog.initOrder.toList = ioA.map Char.ofNat :: ioB.map Char.ofNat :: ioC.map Char.ofNat :: wordsSigns (ioR.map Char.ofNat) := by
  rw [io_eq, String.toList_ofList, words_split _ _ (by decide +kernel), words_split _ _ (by decide +kernel), words_split _ _ (by decide +kernel)]
theorem make_of (P : Program) {a b c : List Char} {R : List (List Char)} (hw : wordsSigns P.initOrder.toList = a :: b :: c :: R) (hb : behindMainWord (a :: b :: c :: R) = c :: R) (hc : c = "cut".toList) : P.make = some .cut := by
  subst hc; unfold Program.make; rw [hw, hb]; rfl
theorem lifts_of (P : Program) {a b c : List Char} {R : List (List Char)} (hw : wordsSigns P.initOrder.toList = a :: b :: c :: R) (hb : behindMainWord (a :: b :: c :: R) = c :: R) (hc : c = "cut".toList) : P.liftsFinal = false := by
  subst hc; unfold Program.liftsFinal Program.headLifts; rw [hw, hb]; rfl
theorem may_of (P : Program) {a b c : List Char} {R : List (List Char)} (hw : wordsSigns P.initOrder.toList = a :: b :: c :: R) (hb : behindMainWord (a :: b :: c :: R) = c :: R) (hc : c = "cut".toList)
    (h1 : P.laysLater = false) (h2 : P.bearsReflect = false) (h3 : P.doorFits [] = true) : P.mayEnter = true := by
  subst hc; unfold Program.mayEnter; rw [hw, hb]
  have e : stripLifts liftWords ("cut".toList :: R) = ([], "cut".toList :: R) := rfl
  simp only [e, h1, h2, h3]
  rfl
theorem io_make : Tryd.prog.make = some .cut := make_of _ io_words (by kernel_rfl) (by kernel_rfl)
theorem io_lifts : Tryd.prog.liftsFinal = false := lifts_of _ io_words (by kernel_rfl) (by kernel_rfl)
theorem io_may : Tryd.prog.mayEnter = true := may_of _ io_words (by kernel_rfl) (by kernel_rfl) (by kernel_rfl) (by kernel_rfl) (by kernel_rfl)
end Go.Proofs.YtdkmjclbhfnegaaDoor
