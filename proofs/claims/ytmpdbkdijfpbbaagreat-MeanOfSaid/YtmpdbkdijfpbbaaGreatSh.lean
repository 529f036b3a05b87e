/- Short forms for what the operations of a drawn region do. -/
import Derived.Test.YtmpdbkdijfpbbaaGreatGG
namespace Go.Proofs.YtmpdbkdijfpbbaaGreat
open Go.RowKit
set_option maxRecDepth 100000
set_option linter.unusedVariables false

section
variable {P : Program} {ops : Array Oper} {Q : Exit → Act → World → Prop} {o : Oper} {a : Act} {w : World} {v : Value} {Hs : List (World → Value → Prop)} {al : List Nat} {i : Nat} {N : Prop} {f : FuncId} {args : Array Value} {H : World → Value → Prop} {Z : Nat → List Value}
theorem no_al {C : Prop} (h : al.contains i = false) : al.contains i = true → C := fun e => by rw [h] at e; cases e
theorem dv1 (hw : Region.wanted o (yielded ops a.tmps) = true) (hr : (execOp a.eval o).run P w = .ok (.value v) w) (h : Hat Hs i w v) (ha : al.contains i = false) :
    if Region.wanted o (yielded ops a.tmps) = true then Does P Q o a w (fun v w' => Hat Hs i w' v ∧ Below w.heap.size w w' ∧ (al.contains i = true → v = .pointer (some ⟨w.heap.size, 0, none⟩))) else N :=
  if_does hw (Does.vals hr ⟨h, Below.refl _ _, no_al ha⟩)
theorem dv0 (hr : (execOp a.eval o).run P w = .ok (.value v) w) (h : Hat Hs i w v) (ha : al.contains i = false) (hg : o.guard = none) :
    if Region.wanted o (yielded ops a.tmps) = true then Does P Q o a w (fun v w' => Hat Hs i w' v ∧ Below w.heap.size w w' ∧ (al.contains i = true → v = .pointer (some ⟨w.heap.size, 0, none⟩))) else N := dv1 (wanted_free hg) hr h ha
theorem dw1 (hw : Region.wanted o (yielded ops a.tmps) = true) (hr : (execOp a.eval o).run P w = .ok (.value v) w) (h : Hat Hs i w v) (ha : al.contains i = false) :
    if Region.wanted o (yielded ops a.tmps) = true then Does P Q o a w (fun v w' => (al.contains i = false → Hat Hs i w' v) ∧ Below w.heap.size w w' ∧ (al.contains i = true → v = .pointer (some ⟨w.heap.size, 0, none⟩) ∧ Own w' w.heap.size (Z i))) else N :=
  if_does hw (Does.vals hr ⟨fun _ => h, Below.refl _ _, no_al ha⟩)
theorem dw0 (hr : (execOp a.eval o).run P w = .ok (.value v) w) (h : Hat Hs i w v) (ha : al.contains i = false) (hg : o.guard = none) :
    if Region.wanted o (yielded ops a.tmps) = true then Does P Q o a w (fun v w' => (al.contains i = false → Hat Hs i w' v) ∧ Below w.heap.size w w' ∧ (al.contains i = true → v = .pointer (some ⟨w.heap.size, 0, none⟩) ∧ Own w' w.heap.size (Z i))) else N := dw1 (wanted_free hg) hr h ha
theorem dc1 (hw : Region.wanted o (yielded ops a.tmps) = true) (hr : (execOp a.eval o).run P w = .ok (.enter f args) w) (hc : Calls P f args w fun e w' => ∃ v, e = .returned v ∧ Hat Hs i w' v ∧ Below w.heap.size w w') (ha : al.contains i = false) :
    if Region.wanted o (yielded ops a.tmps) = true then Does P Q o a w (fun v w' => Hat Hs i w' v ∧ Below w.heap.size w w' ∧ (al.contains i = true → v = .pointer (some ⟨w.heap.size, 0, none⟩))) else N :=
  if_does hw (Does.calls hr hc fun _ _ ⟨v, e, h, b⟩ => ⟨v, e, h, b, no_al ha⟩)
theorem dc0 (hr : (execOp a.eval o).run P w = .ok (.enter f args) w) (hc : Calls P f args w fun e w' => ∃ v, e = .returned v ∧ Hat Hs i w' v ∧ Below w.heap.size w w') (ha : al.contains i = false) (hg : o.guard = none) :
    if Region.wanted o (yielded ops a.tmps) = true then Does P Q o a w (fun v w' => Hat Hs i w' v ∧ Below w.heap.size w w' ∧ (al.contains i = true → v = .pointer (some ⟨w.heap.size, 0, none⟩))) else N := dc1 (wanted_free hg) hr hc ha
theorem dk1 (hw : Region.wanted o (yielded ops a.tmps) = true) (hr : (execOp a.eval o).run P w = .ok (.enter f args) w) (hc : Calls P f args w fun e w' => ∃ v, e = .returned v ∧ Hat Hs i w' v ∧ Below w.heap.size w w') (ha : al.contains i = false) :
    if Region.wanted o (yielded ops a.tmps) = true then Does P Q o a w (fun v w' => (al.contains i = false → Hat Hs i w' v) ∧ Below w.heap.size w w' ∧ (al.contains i = true → v = .pointer (some ⟨w.heap.size, 0, none⟩) ∧ Own w' w.heap.size (Z i))) else N :=
  if_does hw (Does.calls hr hc fun _ _ ⟨v, e, h, b⟩ => ⟨v, e, fun _ => h, b, no_al ha⟩)
theorem dk0 (hr : (execOp a.eval o).run P w = .ok (.enter f args) w) (hc : Calls P f args w fun e w' => ∃ v, e = .returned v ∧ Hat Hs i w' v ∧ Below w.heap.size w w') (ha : al.contains i = false) (hg : o.guard = none) :
    if Region.wanted o (yielded ops a.tmps) = true then Does P Q o a w (fun v w' => (al.contains i = false → Hat Hs i w' v) ∧ Below w.heap.size w w' ∧ (al.contains i = true → v = .pointer (some ⟨w.heap.size, 0, none⟩) ∧ Own w' w.heap.size (Z i))) else N := dk1 (wanted_free hg) hr hc ha
theorem dcx1 (hw : Region.wanted o (yielded ops a.tmps) = true) (hr : (execOp a.eval o).run P w = .ok (.enter f args) w) (hc : Calls P f args w fun e w' => e = .returned v ∧ Below w.heap.size w w') (h : ∀ w', Hat Hs i w' v) (ha : al.contains i = false) :
    if Region.wanted o (yielded ops a.tmps) = true then Does P Q o a w (fun v w' => Hat Hs i w' v ∧ Below w.heap.size w w' ∧ (al.contains i = true → v = .pointer (some ⟨w.heap.size, 0, none⟩))) else N :=
  if_does hw (Does.calls hr hc fun _ w' ⟨e, b⟩ => ⟨v, e, h w', b, no_al ha⟩)
theorem dcx0 (hr : (execOp a.eval o).run P w = .ok (.enter f args) w) (hc : Calls P f args w fun e w' => e = .returned v ∧ Below w.heap.size w w') (h : ∀ w', Hat Hs i w' v) (ha : al.contains i = false) (hg : o.guard = none) :
    if Region.wanted o (yielded ops a.tmps) = true then Does P Q o a w (fun v w' => Hat Hs i w' v ∧ Below w.heap.size w w' ∧ (al.contains i = true → v = .pointer (some ⟨w.heap.size, 0, none⟩))) else N := dcx1 (wanted_free hg) hr hc h ha
theorem dkx1 (hw : Region.wanted o (yielded ops a.tmps) = true) (hr : (execOp a.eval o).run P w = .ok (.enter f args) w) (hc : Calls P f args w fun e w' => e = .returned v ∧ Below w.heap.size w w') (h : ∀ w', Hat Hs i w' v) (ha : al.contains i = false) :
    if Region.wanted o (yielded ops a.tmps) = true then Does P Q o a w (fun v w' => (al.contains i = false → Hat Hs i w' v) ∧ Below w.heap.size w w' ∧ (al.contains i = true → v = .pointer (some ⟨w.heap.size, 0, none⟩) ∧ Own w' w.heap.size (Z i))) else N :=
  if_does hw (Does.calls hr hc fun _ w' ⟨e, b⟩ => ⟨v, e, fun _ => h w', b, no_al ha⟩)
theorem dkx0 (hr : (execOp a.eval o).run P w = .ok (.enter f args) w) (hc : Calls P f args w fun e w' => e = .returned v ∧ Below w.heap.size w w') (h : ∀ w', Hat Hs i w' v) (ha : al.contains i = false) (hg : o.guard = none) :
    if Region.wanted o (yielded ops a.tmps) = true then Does P Q o a w (fun v w' => (al.contains i = false → Hat Hs i w' v) ∧ Below w.heap.size w w' ∧ (al.contains i = true → v = .pointer (some ⟨w.heap.size, 0, none⟩) ∧ Own w' w.heap.size (Z i))) else N := dkx1 (wanted_free hg) hr hc h ha
variable {ds : List Nat} {ds2 : List (Option Nat)} {x : Value}
theorem hat_at {H : World → Value → Prop} (hH : Hs[i]? = some H) (h : Hat Hs i w v) : H w v := by
  unfold Hat at h; rw [hH] at h; exact h
theorem sS (hall : ∀ (i s : Nat), ds[i]? = some s → Hat Hs i w (a.tmps.getD s undef)) (i s : Nat) (hs : ds[i]? = some s) (hH : Hs[i]? = some H) : ∃ v, a.tmps.getD s undef = v ∧ H w v := ⟨_, rfl, hat_at hH (hall i s hs)⟩
theorem sSe (hall : ∀ (i s : Nat), ds[i]? = some s → Hat Hs i w (a.tmps.getD s undef)) (i s : Nat) (hs : ds[i]? = some s) (hH : Hs[i]? = some fun _ v => v = x) : a.tmps.getD s undef = x := hat_at hH (hall i s hs)
theorem sS2 (hall : ∀ (i s : Nat), al.contains i = false → ds2[i]? = some (some s) → Hat Hs i w (a.tmps.getD s undef)) (i s : Nat) (ha : al.contains i = false) (hs : ds2[i]? = some (some s)) (hH : Hs[i]? = some H) : ∃ v, a.tmps.getD s undef = v ∧ H w v := ⟨_, rfl, hat_at hH (hall i s ha hs)⟩
theorem sSe2 (hall : ∀ (i s : Nat), al.contains i = false → ds2[i]? = some (some s) → Hat Hs i w (a.tmps.getD s undef)) (i s : Nat) (ha : al.contains i = false) (hs : ds2[i]? = some (some s)) (hH : Hs[i]? = some fun _ v => v = x) : a.tmps.getD s undef = x := hat_at hH (hall i s ha hs)
theorem sH {e : Edge} (hd : ∀ (e : Edge) (s : Nat), e ∈ o.after → Region.binds .any e = true → ds[e.on]? = some s → Hat Hs e.on w (a.tmps.getD s undef)) (p s : Nat) (he : o.after[p]? = some e) (hb : Region.binds .any e = true) (hs : ds[e.on]? = some s) (hH : Hs[e.on]? = some H) : ∃ v, a.tmps.getD s undef = v ∧ H w v := ⟨_, rfl, hat_at hH (hd e s (Array.mem_of_getElem? he) hb hs)⟩
theorem sHe {e : Edge} (hd : ∀ (e : Edge) (s : Nat), e ∈ o.after → Region.binds .any e = true → ds[e.on]? = some s → Hat Hs e.on w (a.tmps.getD s undef)) (p s : Nat) (he : o.after[p]? = some e) (hb : Region.binds .any e = true) (hs : ds[e.on]? = some s) (hH : Hs[e.on]? = some fun _ v => v = x) : a.tmps.getD s undef = x := hat_at hH (hd e s (Array.mem_of_getElem? he) hb hs)
theorem sH2 {e : Edge} (hd : ∀ (e : Edge) (s : Nat), e ∈ o.after → Region.binds .any e = true → al.contains e.on = false → ds2[e.on]? = some (some s) → Hat Hs e.on w (a.tmps.getD s undef)) (p s : Nat) (he : o.after[p]? = some e) (hb : Region.binds .any e = true) (ha : al.contains e.on = false) (hs : ds2[e.on]? = some (some s)) (hH : Hs[e.on]? = some H) : ∃ v, a.tmps.getD s undef = v ∧ H w v := ⟨_, rfl, hat_at hH (hd e s (Array.mem_of_getElem? he) hb ha hs)⟩
theorem sHe2 {e : Edge} (hd : ∀ (e : Edge) (s : Nat), e ∈ o.after → Region.binds .any e = true → al.contains e.on = false → ds2[e.on]? = some (some s) → Hat Hs e.on w (a.tmps.getD s undef)) (p s : Nat) (he : o.after[p]? = some e) (hb : Region.binds .any e = true) (ha : al.contains e.on = false) (hs : ds2[e.on]? = some (some s)) (hH : Hs[e.on]? = some fun _ v => v = x) : a.tmps.getD s undef = x := hat_at hH (hd e s (Array.mem_of_getElem? he) hb ha hs)
end
end Go.Proofs.YtmpdbkdijfpbbaaGreat
