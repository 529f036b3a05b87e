/- The program's head, word by word. -/
import Derived.Test.YtgdpkknapcgcbaaGreatDoorRows
import Derived.WalkKit
import Derived.ProofKit
namespace Go.Proofs.YtgdpkknapcgcbaaGreatDoor
open Go.ChangeShapes Go.WideShapes Go.ChangeAt Go.RowKit
set_option maxHeartbeats 4000000
set_option maxRecDepth 100000

def ioA : List Nat := [104, 97, 114, 110, 101, 115, 115]
def ioB : List Nat := [53, 100, 54, 53, 55, 99, 97, 50, 51, 48, 57, 49, 55, 97, 49, 102, 49, 48, 51, 100, 50, 97, 100, 53, 52, 54, 49, 51, 53, 50, 102, 56, 51, 57, 97, 48, 50, 97, 98, 99, 98, 51, 102, 55, 56, 48, 55, 100, 53, 54, 55, 50, 101, 53, 55, 55, 98, 49, 52, 54, 97, 99, 48, 99]
def ioC : List Nat := [99, 117, 116]
def ioR : List Nat := [97, 116, 32, 101, 112, 104, 101, 109, 101, 114, 105, 115, 47, 101, 112, 104, 101, 109, 101, 114, 105, 115, 108, 97, 119, 50, 52, 46, 65, 108, 109, 97, 110, 97, 99, 68, 97, 121, 115, 32, 101, 112, 104, 101, 109, 101, 114, 105, 115, 47, 101, 112, 104, 101, 109, 101, 114, 105, 115, 108, 97, 119, 50, 52, 46, 65, 108, 109, 97, 110, 97, 99, 80, 97, 114, 116, 115, 32, 101, 112, 104, 101, 109, 101, 114, 105, 115, 47, 101, 112, 104, 101, 109, 101, 114, 105, 115, 108, 97, 119, 50, 52, 46, 65, 108, 109, 97, 110, 97, 99, 84, 105, 116, 104, 105, 115, 32, 101, 112, 104, 101, 109, 101, 114, 105, 115, 47, 101, 112, 104, 101, 109, 101, 114, 105, 115, 108, 97, 119, 50, 52, 46, 65, 108, 109, 97, 110, 97, 99, 69, 110, 116, 114, 121, 32, 101, 112, 104, 101, 109, 101, 114, 105, 115, 47, 101, 112, 104, 101, 109, 101, 114, 105, 115, 108, 97, 119, 50, 52, 46, 65, 108, 109, 97, 110, 97, 99, 66, 97, 100, 32, 101, 112, 104, 101, 109, 101, 114, 105, 115, 47, 101, 112, 104, 101, 109, 101, 114, 105, 115, 108, 97, 119, 50, 53, 46, 84, 97, 98, 108, 101, 115, 66, 101, 103, 105, 110, 32, 101, 112, 104, 101, 109, 101, 114, 105, 115, 47, 101, 112, 104, 101, 109, 101, 114, 105, 115, 108, 97, 119, 50, 53, 46, 84, 97, 98, 108, 101, 115, 76, 117, 110, 97, 114, 32, 101, 112, 104, 101, 109, 101, 114, 105, 115, 47, 101, 112, 104, 101, 109, 101, 114, 105, 115, 108, 97, 119, 50, 53, 46, 84, 97, 98, 108, 101, 115, 89, 101, 97, 114, 115, 32, 101, 112, 104, 101, 109, 101, 114, 105, 115, 47, 101, 112, 104, 101, 109, 101, 114, 105, 115, 108, 97, 119, 50, 53, 46, 84, 97, 98, 108, 101, 115, 83, 111, 108, 97, 114, 32, 101, 112, 104, 101, 109, 101, 114, 105, 115, 47, 101, 112, 104, 101, 109, 101, 114, 105, 115, 108, 97, 119, 50, 53, 46, 84, 97, 98, 108, 101, 115, 77, 111, 110, 116, 104, 32, 101, 112, 104, 101, 109, 101, 114, 105, 115, 47, 101, 112, 104, 101, 109, 101, 114, 105, 115, 108, 97, 119, 50, 53, 46, 84, 97, 98, 108, 101, 115, 66, 105, 114, 116, 104, 100, 97, 121, 32, 101, 112, 104, 101, 109, 101, 114, 105, 115, 47, 101, 112, 104, 101, 109, 101, 114, 105, 115, 116, 111, 112, 46, 69, 112, 104, 101, 109, 101, 114, 105, 115, 66, 105, 114, 116, 104, 100, 97, 121, 115]
def sp : Char := Char.ofNat 32
theorem words_split (r : List Char) : ∀ w : List Char, w.all (fun c => !(c == sp)) = true → wordsSigns (w ++ sp :: r) = w :: wordsSigns r
  | [], _ => rfl
  | c :: w, h => by
    simp only [List.all_cons, Bool.and_eq_true, Bool.not_eq_true', beq_eq_false_iff_ne] at h
    have ih := words_split r w h.2
    rw [List.cons_append, wordsSigns.eq_3 _ _ (by exact h.1), ih]
theorem io_eq : Tryz.prog.initOrder = String.ofList (ioA.map Char.ofNat ++ sp :: (ioB.map Char.ofNat ++ sp :: (ioC.map Char.ofNat ++ sp :: ioR.map Char.ofNat))) := by kernel_rfl
theorem io_words : wordsSigns Tryz.prog.initOrder.toList = ioA.map Char.ofNat :: ioB.map Char.ofNat :: ioC.map Char.ofNat :: wordsSigns (ioR.map Char.ofNat) := by
  rw [io_eq, String.toList_ofList, words_split _ _ (by decide +kernel), words_split _ _ (by decide +kernel), words_split _ _ (by decide +kernel)]
theorem make_of (P : Program) {a b c : List Char} {R : List (List Char)} (hw : wordsSigns P.initOrder.toList = a :: b :: c :: R) (hb : behindMainWord (a :: b :: c :: R) = c :: R) (hc : c = "cut".toList) : P.make = some .cut := by
  subst hc; unfold Program.make; rw [hw, hb]; rfl
theorem lifts_of (P : Program) {a b c : List Char} {R : List (List Char)} (hw : wordsSigns P.initOrder.toList = a :: b :: c :: R) (hb : behindMainWord (a :: b :: c :: R) = c :: R) (hc : c = "cut".toList) : P.liftsFinal = false := by
  subst hc; unfold Program.liftsFinal Program.headLifts; rw [hw, hb]; rfl
theorem may_of (P : Program) {a b c : List Char} {R : List (List Char)} (hw : wordsSigns P.initOrder.toList = a :: b :: c :: R) (hb : behindMainWord (a :: b :: c :: R) = c :: R) (hc : c = "cut".toList)
    (h1 : P.laysLater = false) (h2 : P.bearsReflect = false) (h3 : P.doorFits [] = true) : P.mayEnter = true := by
  subst hc; unfold Program.mayEnter; rw [hw, hb]
  have e : stripLifts liftWords ("cut".toList :: R) = ([], "cut".toList :: R) := rfl
  simp only [e, h1, h2, h3]
  rfl
theorem io_make : Tryz.prog.make = some .cut := make_of _ io_words (by kernel_rfl) (by kernel_rfl)
theorem io_lifts : Tryz.prog.liftsFinal = false := lifts_of _ io_words (by kernel_rfl) (by kernel_rfl)
theorem io_may : Tryz.prog.mayEnter = true := may_of _ io_words (by kernel_rfl) (by kernel_rfl) (by kernel_rfl) (by kernel_rfl) (by kernel_rfl)
end Go.Proofs.YtgdpkknapcgcbaaGreatDoor
