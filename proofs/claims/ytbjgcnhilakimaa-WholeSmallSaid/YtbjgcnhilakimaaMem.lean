/- Memory words of the walks: what a slice reads as, over any program. -/
import Derived.WalkKit
import Derived.WalkSpells
import Derived.WalkLawsBesides
import Derived.Lib.Hide
import Derived.Laws.CopyOwn
import Derived.Laws.AppendOwnNone
import Derived.StillTailTactics
import Derived.Deep.QuietTactic
import Derived.BigQuiet
import Derived.Deep.RegionWith
import Derived.Test.YtbjgcnhilakimaaNum
namespace Go.Proofs.Ytbjgcnhilakimaa
open Go.RowKit

/-- 2^32, behind a name. -/
def B32 : Nat := 4294967296
theorem B32_eq : B32 = 4294967296 := rfl
theorem B32_two : 2 ≤ B32 := by decide
theorem B32_pos : 0 < B32 := by decide

/-- The cells of numbers. -/
def cl (k : IntKind) (xs : List Nat) : List Value := xs.map (fun n => Value.int k (n : Nat))
theorem cl_length (k : IntKind) (xs : List Nat) : (cl k xs).length = xs.length := by simp [cl]
theorem cl_get {k : IntKind} {xs : List Nat} {i : Nat} (h : i < xs.length) : (cl k xs)[i]? = some (.int k (lg xs i : Nat)) := by
  simp [cl, lg_get h, h]
theorem cl_snoc (k : IntKind) (xs : List Nat) (x : Nat) : cl k (xs ++ [x]) = cl k xs ++ [.int k (x : Nat)] := by simp [cl]
theorem cl_append (k : IntKind) (xs ys : List Nat) : cl k (xs ++ ys) = cl k xs ++ cl k ys := by simp [cl]
theorem cl_set (k : IntKind) (xs : List Nat) (i x : Nat) : cl k (xs.set i x) = (cl k xs).set i (.int k (x : Nat)) := by simp [cl, List.map_set]
theorem cl_nil (k : IntKind) : cl k [] = [] := rfl
theorem cl_replicate (k : IntKind) (n x : Nat) : cl k (List.replicate n x) = List.replicate n (.int k (x : Nat)) := by simp [cl]
theorem cl_one {k : IntKind} {xs : List Nat} : ∀ u ∈ cl k xs, u.oneCell' = true := by
  intro u hu; simp [cl] at hu; obtain ⟨n, _, rfl⟩ := hu; rfl

/-- A slice's address reads as the numbers xs of kind k. -/
structure Rd (w : World) (k : IntKind) (ad : Option Addr) (xs : List Nat) : Prop where
  cell : ∀ i, i < xs.length → ∃ b off, ad = some ⟨b, off, none⟩ ∧ b < w.heap.size ∧ w.cell? ⟨b, off + i, none⟩ = some (.int k (lg xs i : Nat))

theorem Rd.nil (w : World) (k : IntKind) (ad : Option Addr) : Rd w k ad [] := ⟨fun i h => absurd h (by simp)⟩

theorem Rd.get {w : World} {k : IntKind} {ad : Option Addr} {xs : List Nat} (h : Rd w k ad xs) (hp : 0 < xs.length) :
    ∃ b off, ad = some ⟨b, off, none⟩ ∧ b < w.heap.size ∧ ∀ i, i < xs.length → w.cell? ⟨b, off + i, none⟩ = some (.int k (lg xs i : Nat)) := by
  obtain ⟨b, off, ha, hb, _⟩ := h.cell 0 hp
  refine ⟨b, off, ha, hb, fun i hi => ?_⟩
  obtain ⟨b', off', ha', _, hc⟩ := h.cell i hi
  rw [ha] at ha'
  injection ha' with e
  injection e with e1 e2
  subst e1; subst e2
  exact hc

theorem Rd.below {w w' : World} {k : IntKind} {ad : Option Addr} {xs : List Nat} (h : Rd w k ad xs) (hb : Below w.heap.size w w') : Rd w' k ad xs := by
  refine ⟨fun i hi => ?_⟩
  obtain ⟨b, off, ha, hlt, hc⟩ := h.cell i hi
  exact ⟨b, off, ha, Nat.lt_of_lt_of_le hlt hb.size, by rw [hb.cell (p := ⟨b, off + i, none⟩) hlt]; exact hc⟩
theorem Rd.take {w : World} {k : IntKind} {ad : Option Addr} {xs : List Nat} (h : Rd w k ad xs) (n : Nat) : Rd w k ad (xs.take n) := by
  refine ⟨fun i hi => ?_⟩
  simp at hi
  obtain ⟨b, off, ha, hlt, hc⟩ := h.cell i (by omega)
  exact ⟨b, off, ha, hlt, by rw [lg_take (by omega)]; exact hc⟩

theorem pre_dg {xs : List Nat} (ho : okb B32 xs) : xs.take (dl B32 (vl B32 xs)) = dg B32 (vl B32 xs) := by
  have hle := dl_vl_le B32_two ho
  have hv : vl B32 xs = vl B32 (dg B32 (vl B32 xs)) := (vl_dg B32_two _).symm
  have h1 : (xs.take (dl B32 (vl B32 xs))).length = dl B32 (vl B32 xs) := by simp [Nat.min_eq_left hle]
  apply ext_lg h1
  intro i hi
  rw [h1] at hi
  rw [lg_take hi, lg_vl ho B32_pos, lg_dg B32_two]
theorem Rd.dg {w : World} {k : IntKind} {ad : Option Addr} {xs : List Nat} (h : Rd w k ad xs) (ho : okb B32 xs) : Rd w k ad (dg B32 (vl B32 xs)) := by
  rw [← pre_dg ho]; exact h.take _

/-- A slice value that reads as xs. -/
def Sq (w : World) (k : IntKind) (v : Value) (xs : List Nat) : Prop :=
  ∃ ad cap, v = .slice ad xs.length cap ∧ Rd w k ad xs ∧ xs.length ≤ cap ∧ cap ≤ maxLen ∧ xs.length ≤ 1099511627776 ∧ (ad = none → cap = 0)
theorem Sq.below {w w' : World} {k : IntKind} {v : Value} {xs : List Nat} (h : Sq w k v xs) (hb : Below w.heap.size w w') : Sq w' k v xs := by
  obtain ⟨ad, cap, h1, h2, h3⟩ := h
  exact ⟨ad, cap, h1, h2.below hb, h3⟩

/-- A slice value of the digits of n in base b. -/
def Dg (w : World) (k : IntKind) (b : Nat) (v : Value) (n : Nat) : Prop := Sq w k v (dg b n)
/-- A slice of limbs whose value is n: limbs 0 at the top may stand. -/
def Nt (w : World) (v : Value) (n : Nat) : Prop := ∃ xs, okb B32 xs ∧ vl B32 xs = n ∧ Sq w .u32 v xs
theorem Dg.below {w w' : World} {k : IntKind} {b : Nat} {v : Value} {n : Nat} (h : Dg w k b v n) (hb : Below w.heap.size w w') : Dg w' k b v n := Sq.below h hb
theorem Nt.below {w w' : World} {v : Value} {n : Nat} (h : Nt w v n) (hb : Below w.heap.size w w') : Nt w' v n := by
  obtain ⟨xs, h1, h2, h3⟩ := h
  exact ⟨xs, h1, h2, h3.below hb⟩
theorem Dg.nt {w : World} {v : Value} {n : Nat} (h : Dg w .u32 B32 v n) : Nt w v n := ⟨dg B32 n, okb_dg B32_two n, vl_dg B32_two n, h⟩

theorem Dg.zero (w : World) (k : IntKind) (b : Nat) (ad : Option Addr) {cap : Nat} (hc : cap ≤ maxLen) (hn : ad = none → cap = 0) : Dg w k b (.slice ad 0 cap) 0 := by
  unfold Dg; rw [dg_zero]
  exact ⟨ad, cap, rfl, Rd.nil _ _ _, Nat.zero_le _, hc, by simp, hn⟩
/-- A row of the call's own: block g from base on holds xs at its head, and may be written. -/
structure Row (w : World) (k : IntKind) (T base g cap : Nat) (xs : List Nat) : Prop where
  own : w.ownsRow base T 1 (.slice (some ⟨g, 0, none⟩) xs.length cap) xs.length (cl k xs)

theorem Row.parts {w : World} {k : IntKind} {T base g cap : Nat} {xs : List Nat} (h : Row w k T base g cap xs) :
    base ≤ g ∧ g < w.heap.size ∧ xs.length ≤ cap ∧ cap ≤ maxLen := by
  rcases h.own.2 with ⟨h', _⟩ | ⟨g', cap', cur, h', hb, hg, hnc, hcm, _⟩
  · simp at h'
  · simp only [Value.slice.injEq, Option.some.injEq, Addr.mk.injEq, and_true, true_and] at h'
    obtain ⟨rfl, rfl⟩ := h'
    exact ⟨hb, (Array.getElem?_eq_some_iff.1 hg).1, hnc, hcm⟩
theorem Row.cell {w : World} {k : IntKind} {T base g cap : Nat} {xs : List Nat} (h : Row w k T base g cap xs) {j : Nat} (hj : j < xs.length) :
    w.cell? ⟨g, j, none⟩ = some (.int k (lg xs j : Nat)) := by
  rw [h.own.cellAt j (by omega), cl_get hj]
theorem Row.free {w : World} {k : IntKind} {T base g cap : Nat} {xs : List Nat} (h : Row w k T base g cap xs) (j : Nat) : w.frozen? ⟨g, j, none⟩ = false := h.own.frozenAt j
theorem Row.rd {w : World} {k : IntKind} {T base g cap : Nat} {xs : List Nat} (h : Row w k T base g cap xs) : Rd w k (some ⟨g, 0, none⟩) xs :=
  ⟨fun i hi => ⟨g, 0, rfl, h.parts.2.1, by rw [Nat.zero_add]; exact h.cell hi⟩⟩
theorem Row.sq {w : World} {k : IntKind} {T base g cap : Nat} {xs : List Nat} (h : Row w k T base g cap xs) (hl : xs.length ≤ 1099511627776) : Sq w k (.slice (some ⟨g, 0, none⟩) xs.length cap) xs :=
  ⟨_, cap, rfl, h.rd, h.parts.2.2.1, h.parts.2.2.2, hl, fun h => by simp at h⟩
theorem Row.set {w : World} {k : IntKind} {T base g cap : Nat} {xs : List Nat} (h : Row w k T base g cap xs) (j x : Nat) :
    Row (w.setCell ⟨g, j, none⟩ (.int k (x : Nat))) k T base g cap (xs.set j x) := by
  have := (h.own.stored j (.int k (x : Nat))).1
  refine ⟨?_⟩
  rw [cl_set, List.length_set]
  exact this
theorem Row.of_block {w w' : World} {k : IntKind} {T base g cap : Nat} {xs : List Nat} (h : Row w k T base g cap xs) (hb : w'.heap[g]? = w.heap[g]?) : Row w' k T base g cap xs := by
  refine ⟨h.own.1, ?_⟩
  rcases h.own.2 with ⟨h', _⟩ | ⟨g', cap', cur, h', h3, hg, r⟩
  · simp at h'
  · have h'' := h'
    simp only [Value.slice.injEq, Option.some.injEq, Addr.mk.injEq, and_true, true_and] at h''
    obtain ⟨rfl, rfl⟩ := h''
    exact .inr ⟨g, cap, cur, rfl, h3, by rw [hb]; exact hg, r⟩
theorem Row.below {w w' : World} {k : IntKind} {T base g cap : Nat} {xs : List Nat} (h : Row w k T base g cap xs) (hb : Below w.heap.size w w') : Row w' k T base g cap xs :=
  h.of_block (hb.block g h.parts.2.1)
theorem Row.rebase {w : World} {k : IntKind} {T base base' g cap : Nat} {xs : List Nat} (h : Row w k T base g cap xs) (hb : base' ≤ g) : Row w k T base' g cap xs := by
  refine ⟨h.own.1, ?_⟩
  rcases h.own.2 with ⟨h', _⟩ | ⟨g', cap', cur, h', h3, hg, r⟩
  · simp at h'
  · have h'' := h'
    simp only [Value.slice.injEq, Option.some.injEq, Addr.mk.injEq, and_true, true_and] at h''
    obtain ⟨rfl, rfl⟩ := h''
    exact .inr ⟨g, cap, cur, rfl, hb, hg, r⟩
theorem Row.drew {w : World} {k : IntKind} {T base g cap : Nat} {xs : List Nat} (h : Row w k T base g cap xs) : Row w.drew k T base g cap xs := ⟨h.own⟩
theorem Rd.drew {w : World} {k : IntKind} {ad : Option Addr} {xs : List Nat} (h : Rd w k ad xs) : Rd w.drew k ad xs := ⟨h.cell⟩
theorem Rd.setCell {w : World} {k : IntKind} {ad : Option Addr} {xs : List Nat} (h : Rd w k ad xs) {p : Addr} (u : Value) (hne : ∀ b off, ad = some ⟨b, off, none⟩ → 0 < xs.length → b ≠ p.block) : Rd (w.setCell p u) k ad xs := by
  refine ⟨fun i hi => ?_⟩
  obtain ⟨b, off, ha, hlt, hc⟩ := h.cell i hi
  have hn := hne b off ha (by omega)
  exact ⟨b, off, ha, by simpa [World.setCell] using hlt, by rw [World.cell?_setCell_other _ _ _ _ (by intro e; exact hn (by rw [e]))]; exact hc⟩

theorem Row.of_made {w : World} {k : IntKind} {T base g n : Nat} (h : w.ownsRow base T 1 (.slice (some ⟨g, 0, none⟩) n n) n (madeCells #[Value.int k 0] n).toList) :
    Row w k T base g n (List.replicate n 0) := by
  refine ⟨?_⟩
  rw [cl_replicate, List.length_replicate]
  rw [toList_madeCells_one] at h
  exact h
theorem okb_replicate {b : Nat} (hb : 0 < b) (n : Nat) : okb b (List.replicate n 0) := by
  intro x hx; rw [List.mem_replicate] at hx; omega
theorem bcell {W w1 : World} {B : Nat} (hb : Below B W w1) : (∀ b o, b < B → w1.cell? ⟨b, o, none⟩ = W.cell? ⟨b, o, none⟩) ∧ (∀ b o, b < B → w1.frozen? ⟨b, o, none⟩ = W.frozen? ⟨b, o, none⟩) :=
  ⟨fun b o h => hb.cell (p := ⟨b, o, none⟩) h, fun b o h => hb.frozen (p := ⟨b, o, none⟩) h⟩

/-- A slice of the call's own, nil or a row, that holds xs. -/
structure Acc (w : World) (k : IntKind) (T base : Nat) (v : Value) (xs : List Nat) : Prop where
  own : w.ownsRow base T 1 v xs.length (cl k xs)
theorem Acc.shape {w : World} {k : IntKind} {T base : Nat} {v : Value} {xs : List Nat} (h : Acc w k T base v xs) :
    (v = .slice none 0 0 ∧ xs = []) ∨ ∃ g cap, v = .slice (some ⟨g, 0, none⟩) xs.length cap ∧ Row w k T base g cap xs := by
  rcases h.own.2 with ⟨h1, h2⟩ | ⟨g, cap, cur, h1, r⟩
  · exact .inl ⟨h1, List.length_eq_zero_iff.1 h2⟩
  · exact .inr ⟨g, cap, h1, ⟨by rw [← h1]; exact h.own⟩⟩
theorem Row.acc {w : World} {k : IntKind} {T base g cap : Nat} {xs : List Nat} (h : Row w k T base g cap xs) : Acc w k T base (.slice (some ⟨g, 0, none⟩) xs.length cap) xs := ⟨h.own⟩
theorem Acc.sq {w : World} {k : IntKind} {T base : Nat} {v : Value} {xs : List Nat} (h : Acc w k T base v xs) (hl : xs.length ≤ 1099511627776) : Sq w k v xs := by
  rcases h.shape with ⟨rfl, rfl⟩ | ⟨g, cap, rfl, hr⟩
  · exact ⟨none, 0, rfl, Rd.nil _ _ _, Nat.le_refl _, by unfold maxLen; omega, by simp, fun _ => rfl⟩
  · exact hr.sq hl
theorem Acc.below {w w' : World} {k : IntKind} {T base : Nat} {v : Value} {xs : List Nat} (h : Acc w k T base v xs) (hb : Below w.heap.size w w') : Acc w' k T base v xs := by
  rcases h.shape with ⟨rfl, rfl⟩ | ⟨g, cap, rfl, hr⟩
  · exact ⟨World.ownsRow_nil _ _ _ _⟩
  · exact (hr.below hb).acc
theorem Acc.rebase {w : World} {k : IntKind} {T base base' : Nat} {v : Value} {xs : List Nat} (h : Acc w k T base v xs) (hb : base' ≤ base) : Acc w k T base' v xs := by
  rcases h.shape with ⟨rfl, rfl⟩ | ⟨g, cap, rfl, hr⟩
  · exact ⟨World.ownsRow_nil _ _ _ _⟩
  · exact (hr.rebase (Nat.le_trans hb hr.parts.1)).acc
theorem Acc.empty (w : World) (k : IntKind) (T base : Nat) (hb : base ≤ w.heap.size) : Acc (w.alloc (.cells #[] T)) k T base (.slice (some ⟨w.heap.size, 0, none⟩) 0 0) [] :=
  ⟨World.ownsRow_lit w #[] 0 hb (by unfold maxLen; omega) (by simp)⟩
theorem Acc.drew {w : World} {k : IntKind} {T base : Nat} {v : Value} {xs : List Nat} (h : Acc w k T base v xs) : Acc w.drew k T base v xs := ⟨h.own⟩
theorem Acc.drewN {w : World} {k : IntKind} {T base : Nat} {v : Value} {xs : List Nat} (h : Acc w k T base v xs) (n : Nat) : Acc (w.drewN n) k T base v xs := ⟨h.own⟩

/-- What leaves a slice of its own. -/
def AccPost (w : World) (k : IntKind) (T : Nat) (xs : List Nat) (e : Ending) (w' : World) : Prop := ∃ v, e = .returned v ∧ Acc w' k T w.heap.size v xs ∧ Below w.heap.size w w'

/-- 'out = append(out, x)', one element. -/
theorem wp_acc {P : Program} (w : World) {ops : Array Oper} {rest : List Oper} {o : Oper} {a : Act} {Q : Exit → Act → World → Prop} (hg : o.guard = none) (s x : Operand) (t : TypeId)
    (ho : o.op = .call { callee := .builtin .append, args := #[s, x], argTypes := #[t, t] })
    (k : IntKind) (T : TypeId) (i : TypeInfo) (bytes : Nat) (ht : P.underlying t = some (.slice T)) (hi : P.info? T = some i) (hz : i.zero = some (.int k 0)) (hs1 : i.size = 1) (hby : i.bytes = bytes) (hbb : bytes ≤ 8)
    (base : Nat) (v : Value) (xs : List Nat) (hacc : Acc w k T base v xs) (hs : a.eval s = v) (z : Int) (n : Nat) (hzn : z = (n : Nat)) (hx : a.eval x = .slice (some ⟨w.heap.size, 0, none⟩) 1 1)
    (hl : xs.length ≤ 2199023255552) (hbase : base ≤ w.heap.size)
    (h : ∀ v' w', Acc w' k T base v' (xs ++ [n]) → Below base w w' → wpList P ops Q rest (a.put o.dst v') w') : wpList P ops Q (o :: rest) a (w.alloc (.cells #[.int k z] T)) := by
  subst hzn
  refine wpList_append_own (w.alloc (.cells #[.int k (n : Nat)] T)) hg s x t ho base T i (.int k 0) 1 bytes ht hi hz hs1 hby rfl (by decide) v xs.length (cl k xs) hs (hacc.own.alloc _) ⟨w.heap.size, 0, none⟩ 1 1 [.int k (n : Nat)] hx rfl ?_ ?_ ?_ ?_ ?_ ?_
  · intro j u hj
    match j, hj with
    | 0, hj => simp at hj; subst hj; simp [Addr.add]
  · intro u hu; simp at hu; subst hu; rfl
  · unfold maxLen; omega
  · have : (xs.length + 1) * bytes ≤ (xs.length + 1) * 8 := Nat.mul_le_mul_left _ hbb
    omega
  · simp; omega
  · intro v' w' h1 h2 _
    refine h v' w' ⟨?_⟩ ?_
    · rw [cl_snoc, List.length_append]; exact h1
    · exact ((Below.refl base w).alloc hbase _).grown h2 (by simp; omega) (fun k' hk => (hacc.own.lt k' hk).1)

/-- 'append(out, l...)', l whatever slice, not nil. -/
theorem wp_accs {P : Program} (w : World) {ops : Array Oper} {rest : List Oper} {o : Oper} {a : Act} {Q : Exit → Act → World → Prop} (hg : o.guard = none) (s x : Operand) (t : TypeId)
    (ho : o.op = .call { callee := .builtin .append, args := #[s, x], argTypes := #[t, t] })
    (k : IntKind) (T : TypeId) (i : TypeInfo) (bytes : Nat) (ht : P.underlying t = some (.slice T)) (hi : P.info? T = some i) (hz : i.zero = some (.int k 0)) (hs1 : i.size = 1) (hby : i.bytes = bytes) (hbb : bytes ≤ 8)
    (base : Nat) (v : Value) (xs : List Nat) (hacc : Acc w k T base v xs) (hs : a.eval s = v) (ad : Addr) (m cap : Nat) (ys : List Nat) (hm : m = ys.length) (hx : a.eval x = .slice (some ad) m cap) (hr : Rd w k (some ad) ys)
    (hl : xs.length ≤ 1099511627778) (hl' : ys.length ≤ 1099511627778) (hbase : base ≤ w.heap.size)
    (h : ∀ v' w', Acc w' k T base v' (xs ++ ys) → Below base w w' → (v' = .slice none 0 0 ↔ v = .slice none 0 0 ∧ m = 0) → wpList P ops Q rest (a.put o.dst v') w') : wpList P ops Q (o :: rest) a w := by
  refine wpList_append_own w hg s x t ho base T i (.int k 0) 1 bytes ht hi hz hs1 hby rfl (by decide) v xs.length (cl k xs) hs hacc.own ad m cap (cl k ys) hx (by rw [cl_length, hm, Nat.mul_one]) ?_ cl_one ?_ ?_ hbase ?_
  · intro j u hj
    have hjl : j < ys.length := by
      have := (List.getElem?_eq_some_iff.1 hj).1
      rwa [cl_length] at this
    rw [cl_get hjl] at hj
    injection hj with hj
    subst hj
    obtain ⟨b, off, ha, _, hc⟩ := hr.cell j hjl
    injection ha with ha
    subst ha
    unfold Addr.add
    by_cases h0 : j = 0
    · subst h0; simpa using hc
    · rw [if_neg h0]; exact hc
  · unfold maxLen; omega
  · have : (xs.length + m) * bytes ≤ (xs.length + m) * 8 := Nat.mul_le_mul_left _ hbb
    omega
  · intro v' w' h1 h2 h3
    refine h v' w' ⟨?_⟩ ?_ h3
    · rw [cl_append, List.length_append, ← hm]; exact h1
    · exact (Below.refl base w).grown h2 hbase (fun k' hk => (hacc.own.lt k' hk).1)

theorem below_draws {B : Nat} {a w : World} (h : Below B a w) (n : Nat) : Below B a (w.drewN n) := ⟨h.os, h.tape, h.output, h.size, h.block⟩
theorem Rd.drewN {w : World} {k : IntKind} {ad : Option Addr} {xs : List Nat} (h : Rd w k ad xs) (n : Nat) : Rd (w.drewN n) k ad xs := ⟨h.cell⟩
theorem Row.drewN {w : World} {k : IntKind} {T base g cap : Nat} {xs : List Nat} (h : Row w k T base g cap xs) (n : Nat) : Row (w.drewN n) k T base g cap xs := ⟨h.own⟩
theorem ret_two {k k' : IntKind} {a b c d : Int} (h : a = b) (h' : c = d) : Ending.returned (.tuple #[.int k a, .int k' c]) = .returned (.tuple #[.int k b, .int k' d]) := by rw [h, h']
/-- What leaves the memory but draws. -/
def Quiet (w : World) (v : Value) (e : Ending) (w' : World) : Prop := e = .returned v ∧ ∃ n, w' = w.drewN n
theorem Quiet.same {w : World} {v : Value} : Quiet w v (.returned v) w := ⟨rfl, 0, rfl⟩
theorem quiet_below {w w' : World} {v : Value} {e : Ending} (h : Quiet w v e w') : e = .returned v ∧ Below w.heap.size w w' ∧ w'.heap.size = w.heap.size := by
  obtain ⟨h1, n, rfl⟩ := h
  exact ⟨h1, below_draws (Below.refl _ _) n, rfl⟩
theorem ret_int {k : IntKind} {a b : Int} (h : a = b) : Ending.returned (.int k a) = .returned (.int k b) := by rw [h]

end Go.Proofs.Ytbjgcnhilakimaa
