/- Blk TyI -/
import Derived.IntWalk
import Derived.Laws.StructEq
import Derived.Test.YtmpdbkdijfpbbaaGreatGG

/- Blocks that may hold numbers; operations on integers. -/
namespace Go.Proofs.YtmpdbkdijfpbbaaGreat
open Go.RowKit
set_option maxRecDepth 100000
set_option linter.unusedVariables false

/-- Block g holds these cells. -/
def Blk (w : World) (g : Nat) (cs : List Value) : Prop := ∃ T, w.heap[g]? = some (.cells cs.toArray T (0, 0))
theorem Own.blk {w : World} {g : Nat} {cs : List Value} (h : Own w g cs) : Blk w g cs := h.1
theorem Blk.lt {w : World} {g : Nat} {cs : List Value} (h : Blk w g cs) : g < w.heap.size := by
  obtain ⟨T, h⟩ := h
  exact (Array.getElem?_eq_some_iff.1 h).1
theorem Blk.below {w w' : World} {g : Nat} {cs : List Value} (h : Blk w g cs) (hb : Below w.heap.size w w') : Blk w' g cs := by
  have hlt := h.lt
  obtain ⟨T, h⟩ := h
  exact ⟨T, by rw [hb.block g hlt]; exact h⟩
theorem Blk.range {w : World} {g : Nat} {cs : List Value} (h : Blk w g cs) (o : Nat) (vs : List Value) (hv : (cs.drop o).take vs.length = vs) : w.rangeAt g o vs := by
  obtain ⟨T, h⟩ := h
  intro j v hj
  rw [cell_of_row w g (o + j) _ _ _ h, List.getElem?_toArray]
  have hlt := (List.getElem?_eq_some_iff.1 hj).1
  rw [← hv] at hj
  rw [List.getElem?_take, if_pos hlt, List.getElem?_drop] at hj
  exact hj
theorem Turned.blk {g g2 : Nat} {w w' : World} {cs : List Value} (h : Turned g w w') (ho : Blk w g2 cs) (hne : g2 ≠ g) : Blk w' g2 cs := by
  obtain ⟨T, h1⟩ := ho
  exact ⟨T, by rw [h.block g2 hne]; exact h1⟩
theorem Blk.ne_new {w : World} {g : Nat} {cs : List Value} (h : Blk w g cs) : g ≠ w.heap.size := Nat.ne_of_lt h.lt
/-- A cell that stands. -/
def Cel (w : World) (g i : Nat) (v : Value) : Prop := w.cell? ⟨g, i, none⟩ = some v
theorem Cel.lt {w : World} {g i : Nat} {v : Value} (h : Cel w g i v) : g < w.heap.size := by
  unfold Cel World.cell? at h
  cases hq : w.heap[g]? with
  | none => simp [hq] at h
  | some b => exact (Array.getElem?_eq_some_iff.1 hq).1
theorem Cel.below {w w' : World} {g i : Nat} {v : Value} (h : Cel w g i v) (hb : Below w.heap.size w w') : Cel w' g i v := by
  have hlt := h.lt
  unfold Cel at *
  rw [← h]
  exact World.cell?_of_block (w := w) (hb.block g hlt)
section
variable {P : Program}
theorem blk_load {w : World} {g o n : Nat} {cs vs : List Value} {T : TypeId} {d : TypeDesc} (h : Blk w g cs) (hv : (cs.drop o).take n = vs) (hl : vs.length = n) (hu : P.underlying T = some d) (hd : d.isRow = true) (hi : (P.info? T).map (·.size) = some n) :
    (Instr.loadAt T (.pointer (some ⟨g, o, none⟩))).run P w = .ok (.agg vs.toArray) w := by
  subst hl
  exact run_loadAt_mid w g o T vs d (h.range o vs hv) hu hd hi
theorem cell_load1 {w : World} {g o : Nat} {v : Value} {T : TypeId} {d : TypeDesc} (hc : w.cell? ⟨g, o, none⟩ = some v) (hu : P.underlying T = some d) (hd : d.isRow = false) :
    (Instr.loadAt T (.pointer (some ⟨g, o, none⟩))).run P w = .ok v w := by
  have hagg : (isAgg T).run P w = .ok false w := by
    unfold isAgg
    rw [Sem.run_bind, run_underlying hu w]
    cases d <;> simp_all
  simp [Instr.loadAt, Instr.sureAddr, loadVar, Sem.run_bind, hagg, hc, go_sem]
theorem blk_load1 {w : World} {g o : Nat} {cs : List Value} {v : Value} {T : TypeId} {d : TypeDesc} (h : Blk w g cs) (hv : cs[o]? = some v) (hu : P.underlying T = some d) (hd : d.isRow = false) :
    (Instr.loadAt T (.pointer (some ⟨g, o, none⟩))).run P w = .ok v w := by
  obtain ⟨T', h⟩ := h
  have hc : w.cell? ⟨g, o, none⟩ = some v := by rw [cell_of_row w g o _ _ _ h, List.getElem?_toArray]; exact hv
  exact cell_load1 hc hu hd
theorem blk_store {w : World} {g o n : Nat} {cs vs ws : List Value} {T : TypeId} (h : Blk w g cs) (hi : (P.info? T).map (·.size) = some n) (hl : vs.length = n) (ho : Nat.ble (o + n) cs.length = true) (h1 : ∀ v ∈ vs, v.oneCell' = true)
    (hw : cs.take o ++ vs ++ cs.drop (o + n) = ws) :
    ∃ w', (∀ v : Value, v.cells = vs.toArray → (Instr.storeAt T (.pointer (some ⟨g, o, none⟩)) v).run P w = .ok () w') ∧ Turned g w w' ∧ Blk w' g ws := by
  subst hl
  have hle : o + vs.length ≤ cs.length := by simpa using ho
  obtain ⟨T', hh⟩ := h
  refine ⟨w.setRow g ws.toArray, ?_, ?_, ?_⟩
  · intro v hv
    have hst := run_storeCells_at P g o T' vs 0 cs.toArray w hh (by simpa using hle) h1
    simp only [Nat.add_zero] at hst
    cases hq : P.info? T with
    | none => simp [hq] at hi
    | some i =>
      have hs : vs.length = i.size := by simp [hq] at hi; omega
      simp only [Instr.storeAt, Instr.sureAddr, Sem.run_bind, Sem.run_pure, Result.andThen_ok, storeVar, hv, sizeOf, typeInfo]
      simp [hs, hq]
      rw [hst, ← hw]
  · refine ⟨rfl, rfl, rfl, ?_, ?_⟩
    · simp [World.setRow]
    · intro k hk
      simp only [World.setRow, Array.getElem?_modify]
      rw [if_neg (by omega)]
  · exact ⟨T', setRow_heap w g _ _ T' (0, 0) hh⟩
theorem blk_new {w : World} {cs : List Value} (T : TypeId) : Blk (w.alloc (.cells cs.toArray T)) w.heap.size cs ∧ Below w.heap.size w (w.alloc (.cells cs.toArray T)) :=
  ⟨⟨T, heap_alloc_new w _⟩, (Below.refl _ _).alloc (Nat.le_refl _) _⟩
theorem blk_box {w : World} {cs : List Value} {v : Value} (T : TypeId) (hv : v.cells = cs.toArray) :
    ∃ g w', w.heap.size = g ∧ (Instr.box T v).run P w = .ok (.pointer (some ⟨g, 0, none⟩)) w' ∧ Below w.heap.size w w' ∧ Blk w' g cs := by
  refine ⟨w.heap.size, w.alloc (.cells cs.toArray T), rfl, ?_, (blk_new T).2, (blk_new T).1⟩
  simp only [Instr.box, newVar, hv]
  simp [newRow, go_sem]
theorem blk_alloc {w : World} {cs : List Value} {v : Value} (T : TypeId) (hz : (P.info? T).bind (·.zero) = some v) (hv : v.cells = cs.toArray) :
    ∃ g w', w.heap.size = g ∧ (Instr.alloc T true (.tuple #[])).run P w = .ok (.pointer (some ⟨g, 0, none⟩)) w' ∧ Below w.heap.size w w' ∧ Blk w' g cs := by
  refine ⟨w.heap.size, w.alloc (.cells cs.toArray T), rfl, ?_, (blk_new T).2, (blk_new T).1⟩
  cases hq : P.info? T with
  | none => simp [hq] at hz
  | some i =>
    have hz' : i.zero = some v := by simpa [hq] using hz
    have h0 : (zeroValue T).run P w = .ok v w := by simp [zeroValue, typeInfo, hq, hz', go_sem]
    simp only [Instr.alloc, Sem.run_bind, h0, Result.andThen_ok, newVar, hv]
    simp [newRow, go_sem]
end
theorem ocI {k : IntKind} {z : Int} {l : List Value} (h : ∀ v ∈ l, v.oneCell' = true) : ∀ v ∈ (.int k z :: l), v.oneCell' = true := by
  intro v hv
  rcases List.mem_cons.1 hv with rfl | hv
  · rfl
  · exact h v hv
/-! Integers -/
section
variable {P : Program} {w : World}
theorem tdiv_pos (a : Int) {b : Int} (_ : 0 < b) : a.tdiv b = if 0 ≤ a then a / b else -(-a / b) := by
  split
  · rename_i h; exact Int.tdiv_eq_ediv_of_nonneg h
  · rename_i h
    have : (-a).tdiv b = -a / b := Int.tdiv_eq_ediv_of_nonneg (by omega)
    rw [Int.neg_tdiv] at this
    omega
theorem tmod_pos (a : Int) {b : Int} (_ : 0 < b) : a.tmod b = if 0 ≤ a then a % b else -(-a % b) := by
  split
  · rename_i h; exact Int.tmod_eq_emod_of_nonneg h
  · rename_i h
    have : (-a).tmod b = -a % b := Int.tmod_eq_emod_of_nonneg (by omega)
    rw [Int.neg_tmod] at this
    omega
theorem tdiv_in {a b : Int} (hb : 0 < b) (h0 : -9223372036854775808 ≤ a) (h1 : a ≤ 9223372036854775807) : -9223372036854775808 ≤ a.tdiv b ∧ a.tdiv b ≤ 9223372036854775807 := by
  rw [tdiv_pos a hb]
  split
  · rename_i h
    have := Int.ediv_nonneg h (by omega : 0 ≤ b)
    have := Int.ediv_le_self (a := a) b h
    omega
  · rename_i h
    have := Int.ediv_nonneg (a := -a) (by omega) (by omega : 0 ≤ b)
    have := Int.ediv_le_self (a := -a) b (by omega)
    omega
theorem id_quo {t : TypeId} {a b : Int} (hb : 0 < b) (h0 : -9223372036854775808 ≤ a) (h1 : a ≤ 9223372036854775807) : (binOp .quo t (.int .i64 a) (.int .i64 b)).run P w = .ok (.int .i64 (if 0 ≤ a then a / b else -(-a / b))) w := by
  have hr := tdiv_in hb h0 h1
  have hne : b ≠ 0 := by omega
  simp only [binOp, Op.intDiv, ne_eq, not_true_eq_false, if_false, if_neg hne]
  rw [show IntKind.i64.wrap (a.tdiv b) = a.tdiv b from IntWalk.i64_in _ hr, tdiv_pos a hb]
  rfl
theorem id_rem {t : TypeId} {a b : Int} (hb : 0 < b) : (binOp .rem t (.int .i64 a) (.int .i64 b)).run P w = .ok (.int .i64 (if 0 ≤ a then a % b else -(-a % b))) w := by
  have hne : b ≠ 0 := by omega
  simp only [binOp, Op.intDiv, ne_eq, not_true_eq_false, if_false, if_neg hne]
  rw [tmod_pos a hb]
  rfl
theorem id_quon {t : TypeId} {a b : Int} (hb : 0 < b) (ha : 0 ≤ a) (h0 : -9223372036854775808 ≤ a) (h1 : a ≤ 9223372036854775807) : (binOp .quo t (.int .i64 a) (.int .i64 b)).run P w = .ok (.int .i64 (a / b)) w := by
  rw [id_quo hb h0 h1, if_pos ha]
theorem id_remn {t : TypeId} {a b : Int} (hb : 0 < b) (ha : 0 ≤ a) : (binOp .rem t (.int .i64 a) (.int .i64 b)).run P w = .ok (.int .i64 (a % b)) w := by
  rw [id_rem hb, if_pos ha]
theorem id_shr {t : TypeId} {a : Int} {k : IntKind} {n : Nat} (hn : n < 64) {d : Int} (hd : (2 : Int) ^ n = d) : (binOp .shr t (.int .i64 a) (.int k (n : Nat))).run P w = .ok (.int .i64 (a / d)) w := by
  subst hd
  have e : min (((n : Nat) : Int).toNat) IntKind.i64.bits = n := by simp [IntKind.bits]; omega
  have h0 : ¬ (((n : Nat) : Int) < 0) := by omega
  simp only [binOp, Op.shift, if_neg h0, e]
  rw [Int.fdiv_eq_ediv_of_nonneg _ (by exact Int.le_of_lt (Int.pow_pos (by decide)))]
  rfl
theorem id_and {t : TypeId} {a : Int} {n : Nat} (hn : n < 63) {d m : Int} (hd : (2 : Int) ^ n = d) (hm : d - 1 = m) : (binOp .and t (.int .i64 a) (.int .i64 m)).run P w = .ok (.int .i64 (a % d)) w := by
  subst hd hm
  have hp : (2 : Int) ^ n = ((2 ^ n : Nat) : Int) := by simp
  have h1 : (1 : Nat) ≤ 2 ^ n := Nat.one_le_two_pow
  have h2 : (2 : Nat) ^ n ≤ 2 ^ 62 := Nat.pow_le_pow_right (by decide) (by omega)
  have e : (BitVec.ofInt 64 a &&& BitVec.ofInt 64 ((2 : Int) ^ n - 1)).toNat = (a % 2 ^ n).toNat := by
    rw [BitVec.toNat_and, BitVec.toNat_ofInt, BitVec.toNat_ofInt]
    have e1 : (((2 : Int) ^ n - 1) % ((2 ^ 64 : Nat) : Int)).toNat = 2 ^ n - 1 := by rw [hp]; omega
    rw [e1, Nat.and_two_pow_sub_one_eq_mod]
    have hd : ((2 ^ n : Nat) : Int) ∣ ((2 ^ 64 : Nat) : Int) := by
      refine Int.natCast_dvd_natCast.2 (Nat.pow_dvd_pow 2 (by omega))
    have e2 : (a % ((2 ^ 64 : Nat) : Int)) % ((2 ^ n : Nat) : Int) = a % ((2 ^ n : Nat) : Int) := Int.emod_emod_of_dvd a hd
    have nn := Int.emod_nonneg a (by decide : ((2 ^ 64 : Nat) : Int) ≠ 0)
    rw [hp, ← e2]
    generalize a % ((2 ^ 64 : Nat) : Int) = x at *
    obtain ⟨y, rfl⟩ := Int.eq_ofNat_of_zero_le nn
    rw [Int.toNat_natCast, ← Int.natCast_emod, Int.toNat_natCast]
  have b1 := Int.emod_nonneg a (show (2 : Int) ^ n ≠ 0 by rw [hp]; omega)
  have b2 := Int.emod_lt_of_pos a (show 0 < (2 : Int) ^ n by rw [hp]; omega)
  show (pure (.int .i64 (IntKind.i64.wrap (((BitVec.ofInt 64 a &&& BitVec.ofInt 64 ((2 : Int) ^ n - 1)).toNat : Nat) : Int))) : Sem Value).run P w = _
  rw [e, show (((a % 2 ^ n).toNat : Nat) : Int) = a % 2 ^ n from Int.toNat_of_nonneg b1]
  rw [show IntKind.i64.wrap (a % 2 ^ n) = a % 2 ^ n from IntWalk.i64_in _ ⟨by omega, by rw [hp] at *; omega⟩]
  rfl
theorem cv_same {s t : TypeId} {a : Int} (hs : P.underlying s = some (.int .i64)) (ht : P.underlying t = some (.int .i64)) (h0 : -9223372036854775808 ≤ a) (h1 : a ≤ 9223372036854775807) : (convert s t (.int .i64 a)).run P w = .ok (.int .i64 a) w := by
  unfold convert
  simp only [Sem.run_bind, run_underlying hs, run_underlying ht, Result.andThen_ok]
  show (Conv.intToInt .i64 a).run P w = _
  unfold Conv.intToInt
  rw [IntWalk.i64_in _ ⟨h0, h1⟩]
  rfl
theorem bl_min {t : TypeId} {ts : Array TypeId} {cs : Array Bool} {a b : Int} : (builtin .min ts t cs #[.int .i64 a, .int .i64 b]).run P w = .ok (.value (.int .i64 (min a b))) w := by
  have e : (if b < a then b else a) = min a b := by omega
  simp [Builtin.min_, Builtin.min2, e, go_sem]
theorem bl_max {t : TypeId} {ts : Array TypeId} {cs : Array Bool} {a b : Int} : (builtin .max ts t cs #[.int .i64 a, .int .i64 b]).run P w = .ok (.value (.int .i64 (max a b))) w := by
  have e : (if a < b then b else a) = max a b := by omega
  simp [Builtin.max_, Builtin.max2, e, go_sem]
theorem dec_tt {p : Prop} [Decidable p] (h : p) : decide p = true := decide_eq_true h
theorem dec_ff {p : Prop} [Decidable p] (h : ¬ p) : decide p = false := decide_eq_false h
end
theorem part_run {P : Program} {w : World} {t : TypeId} {d : TypeDesc} (hu : P.underlying t = some d) (hd : d.isRow = false) {xs : Array Value} {off : Nat} {v : Value} (hv : xs[off]? = some v) : (part t xs off).run P w = .ok v w := by
  have hagg : (isAgg t).run P w = .ok false w := by
    unfold isAgg
    rw [Sem.run_bind, run_underlying hu w]
    cases d <;> simp_all
  simp [part, Sem.run_bind, hagg, hv]
theorem eqf_nil {P : Program} {w : World} {d : Nat} {xs ys : Array Value} : (Op.eqFields d xs ys []).run P w = .ok true w := by simp [Op.eqFields]
theorem eqf_int {P : Program} {w : World} {d : Nat} {xs ys : Array Value} {f : Field} {fs : List Field} {s : Bool} {a b : Int} {k k' : IntKind} (hn : (f.name != "_") = true) (hu : P.underlying f.type = some (.int k')) (h1 : xs[f.offset]? = some (.int k a)) (h2 : ys[f.offset]? = some (.int k b))
    (hr : (Op.eqFields (d + 1) xs ys fs).run P w = .ok s w) : (Op.eqFields (d + 1) xs ys (f :: fs)).run P w = .ok (decide (a = b) && s) w := by
  have hn' : f.name ≠ "_" := by simpa using hn
  simp only [Op.eqFields, Sem.run_bind, Sem.run_ite, if_pos hn', part_run hu rfl h1, part_run hu rfl h2, Result.andThen_ok, run_equalIn_int w d f.type k k' a b hu]
  by_cases e : a = b
  · subst e; simp [hr]
  · simp [e]
theorem dec_and {p q : Prop} [Decidable p] [Decidable q] : (decide p && decide q) = decide (p ∧ q) := by simp
theorem bounds64 {a : Int} (h : (Lit.int .i64 a).wf = true) : -9223372036854775808 ≤ a ∧ a ≤ 9223372036854775807 := by
  simp [Lit.wf, IntKind.min, IntKind.max, IntKind.bits, IntKind.signed] at h
  omega
theorem rv_int {a b : Int} (h : a = b) : Ending.returned (.int .i64 a) = .returned (.int .i64 b) := by rw [h]
theorem rv_bool {a b : Bool} (h : a = b) : Ending.returned (.bool a) = .returned (.bool b) := by rw [h]
theorem rv_int2 {a b c d : Int} (h : a = b) (k : c = d) : Ending.returned (.tuple #[.int .i64 a, .int .i64 c]) = .returned (.tuple #[.int .i64 b, .int .i64 d]) := by rw [h, k]
theorem rv_int3 {a b c d e f : Int} (h : a = b) (k : c = d) (l : e = f) : Ending.returned (.tuple #[.int .i64 a, .int .i64 c, .int .i64 e]) = .returned (.tuple #[.int .i64 b, .int .i64 d, .int .i64 f]) := by rw [h, k, l]
theorem res_tmp3 {P : Program} {fn : Func} {a : Act} {w : World} {t u s : Tmp} {v x y : Value} (h : fn.results = #[.tmp t, .tmp u, .tmp s]) (ha : a.tmps.getD t undef = v) (hx : a.tmps.getD u undef = x) (hy : a.tmps.getD s undef = y) : (results fn a.tmps).run P w = .ok (.tuple #[v, x, y]) w := by
  simp only [results, h, List.mapM_toArray, List.mapM_cons, List.mapM_nil, Sem.run_bind, Result.andThen_ok, Sem.run_pure, Sem.run_map, ha, hx, hy]
  rfl
theorem res_celltmp {P : Program} {fn : Func} {a : Act} {w : World} {t u : Tmp} {T : TypeId} {p : Addr} {v x : Value} (h : fn.results = #[.cell t T, .tmp u]) (ha : a.tmps.getD t undef = .pointer (some p)) (hl : (Instr.loadAt T (.pointer (some p))).run P w = .ok v w) (hx : a.tmps.getD u undef = x) :
    (results fn a.tmps).run P w = .ok (.tuple #[v, x]) w := by
  have hl' : (loadVar T p).run P w = .ok v w := hl
  have e : (asAddr (a.tmps.getD t undef)).run P w = .ok p w := by rw [ha]; rfl
  simp only [results, h, List.mapM_toArray, List.mapM_cons, List.mapM_nil, Sem.run_bind, e, Result.andThen_ok, hl', Sem.run_pure, Sem.run_map, hx]
  rfl
def ValPost (w : World) (v : Value) : Ending → World → Prop := fun e w' => e = .returned v ∧ Below w.heap.size w w'
end Go.Proofs.YtmpdbkdijfpbbaaGreat

/- What the walks need of the types with numbers. -/
namespace Go.Proofs.YtmpdbkdijfpbbaaGreat
open Go.RowKit
set_option maxRecDepth 100000
set_option linter.unusedVariables false

theorem sz_i64 : (Tryz.prog.info? 2).map (·.size) = some 1 := by kernel_rfl
theorem ldb_i64 {w : World} {g o : Nat} {cs : List Value} {v : Value} (h : Blk w g cs) (hv : cs[o]? = some v) : (Instr.loadAt 2 (.pointer (some ⟨g, o, none⟩))).run Tryz.prog w = .ok v w := blk_load1 h hv Tryz.underlying2 rfl
theorem ldc_i64 {w : World} {g o : Nat} {v : Value} (h : w.cell? ⟨g, o, none⟩ = some v) : (Instr.loadAt 2 (.pointer (some ⟨g, o, none⟩))).run Tryz.prog w = .ok v w := cell_load1 h Tryz.underlying2 rfl
theorem stb_i64 {w : World} {g o : Nat} {cs ws vs : List Value} (h : Blk w g cs) (hl : vs.length = 1) (ho : Nat.ble (o + 1) cs.length = true) (h1 : ∀ v ∈ vs, v.oneCell' = true) (hw : cs.take o ++ vs ++ cs.drop (o + 1) = ws) : ∃ w', (∀ v : Value, v.cells = vs.toArray → (Instr.storeAt 2 (.pointer (some ⟨g, o, none⟩)) v).run Tryz.prog w = .ok () w') ∧ Turned g w w' ∧ Blk w' g ws := blk_store h sz_i64 hl ho h1 hw
theorem cv_i64_i64 {w : World} {t : TypeId} {a : Int} (hs : Tryz.prog.underlying t = some (.int .i64)) (h0 : -9223372036854775808 ≤ a) (h1 : a ≤ 9223372036854775807) : (convert t 2 (.int .i64 a)).run Tryz.prog w = .ok (.int .i64 a) w := cv_same hs Tryz.underlying2 h0 h1
theorem sz_int : (Tryz.prog.info? 3).map (·.size) = some 1 := by kernel_rfl
theorem ldb_int {w : World} {g o : Nat} {cs : List Value} {v : Value} (h : Blk w g cs) (hv : cs[o]? = some v) : (Instr.loadAt 3 (.pointer (some ⟨g, o, none⟩))).run Tryz.prog w = .ok v w := blk_load1 h hv Tryz.underlying3 rfl
theorem ldc_int {w : World} {g o : Nat} {v : Value} (h : w.cell? ⟨g, o, none⟩ = some v) : (Instr.loadAt 3 (.pointer (some ⟨g, o, none⟩))).run Tryz.prog w = .ok v w := cell_load1 h Tryz.underlying3 rfl
theorem stb_int {w : World} {g o : Nat} {cs ws vs : List Value} (h : Blk w g cs) (hl : vs.length = 1) (ho : Nat.ble (o + 1) cs.length = true) (h1 : ∀ v ∈ vs, v.oneCell' = true) (hw : cs.take o ++ vs ++ cs.drop (o + 1) = ws) : ∃ w', (∀ v : Value, v.cells = vs.toArray → (Instr.storeAt 3 (.pointer (some ⟨g, o, none⟩)) v).run Tryz.prog w = .ok () w') ∧ Turned g w w' ∧ Blk w' g ws := blk_store h sz_int hl ho h1 hw
theorem cv_i64_int {w : World} {t : TypeId} {a : Int} (hs : Tryz.prog.underlying t = some (.int .i64)) (h0 : -9223372036854775808 ≤ a) (h1 : a ≤ 9223372036854775807) : (convert t 3 (.int .i64 a)).run Tryz.prog w = .ok (.int .i64 a) w := cv_same hs Tryz.underlying3 h0 h1
end Go.Proofs.YtmpdbkdijfpbbaaGreat
