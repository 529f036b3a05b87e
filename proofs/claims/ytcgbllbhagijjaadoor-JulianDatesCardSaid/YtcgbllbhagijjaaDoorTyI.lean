/- What the walks need of the types with numbers. -/
import Derived.Test.YtcgbllbhagijjaaDoorBlk
namespace Go.Proofs.YtcgbllbhagijjaaDoor
open Go.RowKit
set_option maxRecDepth 100000
set_option linter.unusedVariables false

theorem sz_i64 : (Tryd.prog.info? 2).map (·.size) = some 1 := by kernel_rfl
theorem ldb_i64 {w : World} {g o : Nat} {cs : List Value} {v : Value} (h : Blk w g cs) (hv : cs[o]? = some v) : (Instr.loadAt 2 (.pointer (some ⟨g, o, none⟩))).run Tryd.prog w = .ok v w := blk_load1 h hv Tryd.underlying2 rfl
theorem ldc_i64 {w : World} {g o : Nat} {v : Value} (h : w.cell? ⟨g, o, none⟩ = some v) : (Instr.loadAt 2 (.pointer (some ⟨g, o, none⟩))).run Tryd.prog w = .ok v w := cell_load1 h Tryd.underlying2 rfl
theorem stb_i64 {w : World} {g o : Nat} {cs ws vs : List Value} (h : Blk w g cs) (hl : vs.length = 1) (ho : Nat.ble (o + 1) cs.length = true) (h1 : ∀ v ∈ vs, v.oneCell' = true) (hw : cs.take o ++ vs ++ cs.drop (o + 1) = ws) : ∃ w', (∀ v : Value, v.cells = vs.toArray → (Instr.storeAt 2 (.pointer (some ⟨g, o, none⟩)) v).run Tryd.prog w = .ok () w') ∧ Turned g w w' ∧ Blk w' g ws := blk_store h sz_i64 hl ho h1 hw
theorem cv_i64_i64 {w : World} {t : TypeId} {a : Int} (hs : Tryd.prog.underlying t = some (.int .i64)) (h0 : -9223372036854775808 ≤ a) (h1 : a ≤ 9223372036854775807) : (convert t 2 (.int .i64 a)).run Tryd.prog w = .ok (.int .i64 a) w := cv_same hs Tryd.underlying2 h0 h1
theorem sz_int : (Tryd.prog.info? 3).map (·.size) = some 1 := by kernel_rfl
theorem ldb_int {w : World} {g o : Nat} {cs : List Value} {v : Value} (h : Blk w g cs) (hv : cs[o]? = some v) : (Instr.loadAt 3 (.pointer (some ⟨g, o, none⟩))).run Tryd.prog w = .ok v w := blk_load1 h hv Tryd.underlying3 rfl
theorem ldc_int {w : World} {g o : Nat} {v : Value} (h : w.cell? ⟨g, o, none⟩ = some v) : (Instr.loadAt 3 (.pointer (some ⟨g, o, none⟩))).run Tryd.prog w = .ok v w := cell_load1 h Tryd.underlying3 rfl
theorem stb_int {w : World} {g o : Nat} {cs ws vs : List Value} (h : Blk w g cs) (hl : vs.length = 1) (ho : Nat.ble (o + 1) cs.length = true) (h1 : ∀ v ∈ vs, v.oneCell' = true) (hw : cs.take o ++ vs ++ cs.drop (o + 1) = ws) : ∃ w', (∀ v : Value, v.cells = vs.toArray → (Instr.storeAt 3 (.pointer (some ⟨g, o, none⟩)) v).run Tryd.prog w = .ok () w') ∧ Turned g w w' ∧ Blk w' g ws := blk_store h sz_int hl ho h1 hw
theorem cv_i64_int {w : World} {t : TypeId} {a : Int} (hs : Tryd.prog.underlying t = some (.int .i64)) (h0 : -9223372036854775808 ≤ a) (h1 : a ≤ 9223372036854775807) : (convert t 3 (.int .i64 a)).run Tryd.prog w = .ok (.int .i64 a) w := cv_same hs Tryd.underlying3 h0 h1
theorem sz_CDate : (Tryd.prog.info? 24).map (·.size) = some 3 := by kernel_rfl
theorem ze_CDate : (Tryd.prog.info? 24).bind (·.zero) = some (.agg #[.int .i64 0, .int .i64 0, .int .i64 0]) := by kernel_rfl
theorem ldb_CDate {w : World} {g o : Nat} {cs vs : List Value} (h : Blk w g cs) (hv : (cs.drop o).take 3 = vs) (hl : vs.length = 3) : (Instr.loadAt 24 (.pointer (some ⟨g, o, none⟩))).run Tryd.prog w = .ok (.agg vs.toArray) w := blk_load h hv hl Tryd.underlying24 rfl sz_CDate
theorem stb_CDate {w : World} {g o : Nat} {cs ws vs : List Value} (h : Blk w g cs) (hl : vs.length = 3) (ho : Nat.ble (o + 3) cs.length = true) (h1 : ∀ v ∈ vs, v.oneCell' = true) (hw : cs.take o ++ vs ++ cs.drop (o + 3) = ws) : ∃ w', (∀ v : Value, v.cells = vs.toArray → (Instr.storeAt 24 (.pointer (some ⟨g, o, none⟩)) v).run Tryd.prog w = .ok () w') ∧ Turned g w w' ∧ Blk w' g ws := blk_store h sz_CDate hl ho h1 hw
theorem fa_CDate_0 {w : World} {g o p : Nat} (hp : o + 0 = p) : (Instr.fieldAt 24 (.pointer (some ⟨g, o, none⟩)) 0).run Tryd.prog w = .ok (.pointer (some ⟨g, p, none⟩)) w := own_field Tryd.underlying24 rfl rfl sz_i64 rfl p hp
theorem fa_CDate_1 {w : World} {g o p : Nat} (hp : o + 1 = p) : (Instr.fieldAt 24 (.pointer (some ⟨g, o, none⟩)) 1).run Tryd.prog w = .ok (.pointer (some ⟨g, p, none⟩)) w := own_field Tryd.underlying24 rfl rfl sz_int rfl p hp
theorem fa_CDate_2 {w : World} {g o p : Nat} (hp : o + 2 = p) : (Instr.fieldAt 24 (.pointer (some ⟨g, o, none⟩)) 2).run Tryd.prog w = .ok (.pointer (some ⟨g, p, none⟩)) w := own_field Tryd.underlying24 rfl rfl sz_int rfl p hp
theorem bd_CDate_  (w : World) : (Instr.build 24 #[]).run Tryd.prog w = .ok (.agg #[.int .i64 0, .int .i64 0, .int .i64 0]) w := by
  have hz := zero_run ze_CDate w
  have h_int : ∀ w, (sizeOf 3).run Tryd.prog w = .ok 1 w := fun w => size_run sz_int w
  have h_i64 : ∀ w, (sizeOf 2).run Tryd.prog w = .ok 1 w := fun w => size_run sz_i64 w
  simp only [Instr.build, Sem.run_bind, hz, Result.andThen_ok, run_underlying Tryd.underlying24, List.mapM_toArray, List.mapM_cons, List.mapM_nil, Sem.run_map, h_i64, h_int, Sem.run_pure]
  rfl
theorem bd_CDate_012 (z00 : Int) (z10 : Int) (z20 : Int) (w : World) : (Instr.build 24 #[(0, .int .i64 z00), (1, .int .i64 z10), (2, .int .i64 z20)]).run Tryd.prog w = .ok (.agg #[.int .i64 z00, .int .i64 z10, .int .i64 z20]) w := by
  have hz := zero_run ze_CDate w
  have h_int : ∀ w, (sizeOf 3).run Tryd.prog w = .ok 1 w := fun w => size_run sz_int w
  have h_i64 : ∀ w, (sizeOf 2).run Tryd.prog w = .ok 1 w := fun w => size_run sz_i64 w
  simp only [Instr.build, Sem.run_bind, hz, Result.andThen_ok, run_underlying Tryd.underlying24, List.mapM_toArray, List.mapM_cons, List.mapM_nil, Sem.run_map, h_i64, h_int, Sem.run_pure]
  rfl
theorem eg_CDate {w : World} {op : BinOp} {x y : Operand} {xs ys : Array Value} : (eqGuard op 24 x y (.agg xs) (.agg ys)).run Tryd.prog w = .ok () w := run_eqGuard_agg w op _ x y xs ys (by kernel_rfl)
theorem sz_JDate : (Tryd.prog.info? 42).map (·.size) = some 3 := by kernel_rfl
theorem ze_JDate : (Tryd.prog.info? 42).bind (·.zero) = some (.agg #[.int .i64 0, .int .i64 0, .int .i64 0]) := by kernel_rfl
theorem ldb_JDate {w : World} {g o : Nat} {cs vs : List Value} (h : Blk w g cs) (hv : (cs.drop o).take 3 = vs) (hl : vs.length = 3) : (Instr.loadAt 42 (.pointer (some ⟨g, o, none⟩))).run Tryd.prog w = .ok (.agg vs.toArray) w := blk_load h hv hl Tryd.underlying42 rfl sz_JDate
theorem stb_JDate {w : World} {g o : Nat} {cs ws vs : List Value} (h : Blk w g cs) (hl : vs.length = 3) (ho : Nat.ble (o + 3) cs.length = true) (h1 : ∀ v ∈ vs, v.oneCell' = true) (hw : cs.take o ++ vs ++ cs.drop (o + 3) = ws) : ∃ w', (∀ v : Value, v.cells = vs.toArray → (Instr.storeAt 42 (.pointer (some ⟨g, o, none⟩)) v).run Tryd.prog w = .ok () w') ∧ Turned g w w' ∧ Blk w' g ws := blk_store h sz_JDate hl ho h1 hw
theorem fa_JDate_0 {w : World} {g o p : Nat} (hp : o + 0 = p) : (Instr.fieldAt 42 (.pointer (some ⟨g, o, none⟩)) 0).run Tryd.prog w = .ok (.pointer (some ⟨g, p, none⟩)) w := own_field Tryd.underlying42 rfl rfl sz_i64 rfl p hp
theorem fa_JDate_1 {w : World} {g o p : Nat} (hp : o + 1 = p) : (Instr.fieldAt 42 (.pointer (some ⟨g, o, none⟩)) 1).run Tryd.prog w = .ok (.pointer (some ⟨g, p, none⟩)) w := own_field Tryd.underlying42 rfl rfl sz_int rfl p hp
theorem fa_JDate_2 {w : World} {g o p : Nat} (hp : o + 2 = p) : (Instr.fieldAt 42 (.pointer (some ⟨g, o, none⟩)) 2).run Tryd.prog w = .ok (.pointer (some ⟨g, p, none⟩)) w := own_field Tryd.underlying42 rfl rfl sz_int rfl p hp
theorem bd_JDate_  (w : World) : (Instr.build 42 #[]).run Tryd.prog w = .ok (.agg #[.int .i64 0, .int .i64 0, .int .i64 0]) w := by
  have hz := zero_run ze_JDate w
  have h_int : ∀ w, (sizeOf 3).run Tryd.prog w = .ok 1 w := fun w => size_run sz_int w
  have h_i64 : ∀ w, (sizeOf 2).run Tryd.prog w = .ok 1 w := fun w => size_run sz_i64 w
  simp only [Instr.build, Sem.run_bind, hz, Result.andThen_ok, run_underlying Tryd.underlying42, List.mapM_toArray, List.mapM_cons, List.mapM_nil, Sem.run_map, h_i64, h_int, Sem.run_pure]
  rfl
theorem bd_JDate_012 (z00 : Int) (z10 : Int) (z20 : Int) (w : World) : (Instr.build 42 #[(0, .int .i64 z00), (1, .int .i64 z10), (2, .int .i64 z20)]).run Tryd.prog w = .ok (.agg #[.int .i64 z00, .int .i64 z10, .int .i64 z20]) w := by
  have hz := zero_run ze_JDate w
  have h_int : ∀ w, (sizeOf 3).run Tryd.prog w = .ok 1 w := fun w => size_run sz_int w
  have h_i64 : ∀ w, (sizeOf 2).run Tryd.prog w = .ok 1 w := fun w => size_run sz_i64 w
  simp only [Instr.build, Sem.run_bind, hz, Result.andThen_ok, run_underlying Tryd.underlying42, List.mapM_toArray, List.mapM_cons, List.mapM_nil, Sem.run_map, h_i64, h_int, Sem.run_pure]
  rfl
theorem eg_JDate {w : World} {op : BinOp} {x y : Operand} {xs ys : Array Value} : (eqGuard op 42 x y (.agg xs) (.agg ys)).run Tryd.prog w = .ok () w := run_eqGuard_agg w op _ x y xs ys (by kernel_rfl)
theorem fv_CDate_0 (zx0 : Int) (zx1 : Int) (zx2 : Int) (w : World) : (Instr.field 24 (.agg #[.int .i64 zx0, .int .i64 zx1, .int .i64 zx2]) 0).run Tryd.prog w = .ok (.int .i64 zx0) w := by
  have ha : (isAgg 2).run Tryd.prog w = .ok false w := by
    unfold isAgg
    rw [Sem.run_bind, run_underlying Tryd.underlying2 w]
    rfl
  simp only [Instr.field, Sem.run_bind, run_underlying Tryd.underlying24, Result.andThen_ok]
  show ((part 2 #[.int .i64 zx0, .int .i64 zx1, .int .i64 zx2] 0).run Tryd.prog w) = _
  simp only [part, Sem.run_bind, ha, Result.andThen_ok]
  rfl
theorem fv_CDate_1 (zx0 : Int) (zx1 : Int) (zx2 : Int) (w : World) : (Instr.field 24 (.agg #[.int .i64 zx0, .int .i64 zx1, .int .i64 zx2]) 1).run Tryd.prog w = .ok (.int .i64 zx1) w := by
  have ha : (isAgg 3).run Tryd.prog w = .ok false w := by
    unfold isAgg
    rw [Sem.run_bind, run_underlying Tryd.underlying3 w]
    rfl
  simp only [Instr.field, Sem.run_bind, run_underlying Tryd.underlying24, Result.andThen_ok]
  show ((part 3 #[.int .i64 zx0, .int .i64 zx1, .int .i64 zx2] 1).run Tryd.prog w) = _
  simp only [part, Sem.run_bind, ha, Result.andThen_ok]
  rfl
theorem fv_CDate_2 (zx0 : Int) (zx1 : Int) (zx2 : Int) (w : World) : (Instr.field 24 (.agg #[.int .i64 zx0, .int .i64 zx1, .int .i64 zx2]) 2).run Tryd.prog w = .ok (.int .i64 zx2) w := by
  have ha : (isAgg 3).run Tryd.prog w = .ok false w := by
    unfold isAgg
    rw [Sem.run_bind, run_underlying Tryd.underlying3 w]
    rfl
  simp only [Instr.field, Sem.run_bind, run_underlying Tryd.underlying24, Result.andThen_ok]
  show ((part 3 #[.int .i64 zx0, .int .i64 zx1, .int .i64 zx2] 2).run Tryd.prog w) = _
  simp only [part, Sem.run_bind, ha, Result.andThen_ok]
  rfl
theorem es_CDate {w : World} {zx0 : Int} {zx1 : Int} {zx2 : Int} {zy0 : Int} {zy1 : Int} {zy2 : Int} {c : Bool} (h : decide (zx0 = zy0 ∧ zx1 = zy1 ∧ zx2 = zy2) = c) : (binOp .eql 24 (.agg #[.int .i64 zx0, .int .i64 zx1, .int .i64 zx2]) (.agg #[.int .i64 zy0, .int .i64 zy1, .int .i64 zy2])).run Tryd.prog w = .ok (.bool c) w := by
  subst h
  rw [run_eql_struct, run_equalIn_agg w 9999 _ _ _ (by kernel_rfl) (by kernel_rfl)]
  have hf : (Tryd.prog.fieldsOf 24).toList = (match Tryd.prog.underlying 24 with | some (.struct fs) => fs.toList | _ => []) := by kernel_rfl
  rw [hf, Tryd.underlying24]
  have hx : (Op.eqFields 9999 #[.int .i64 zx0, .int .i64 zx1, .int .i64 zx2] #[.int .i64 zy0, .int .i64 zy1, .int .i64 zy2] (match Tryd.prog.underlying 24 with | some (.struct fs) => fs.toList | _ => [])).run Tryd.prog w = .ok ((decide (zx0 = zy0) && (decide (zx1 = zy1) && (decide (zx2 = zy2) && true)))) w := by
    rw [Tryd.underlying24]
    exact eqf_int (by decide) Tryd.underlying2 rfl rfl (eqf_int (by decide) Tryd.underlying3 rfl rfl (eqf_int (by decide) Tryd.underlying3 rfl rfl (eqf_nil)))
  rw [Tryd.underlying24] at hx
  rw [hx]
  simp only [Result.andThen_ok, Bool.and_true, dec_and]
theorem fv_JDate_0 (zx0 : Int) (zx1 : Int) (zx2 : Int) (w : World) : (Instr.field 42 (.agg #[.int .i64 zx0, .int .i64 zx1, .int .i64 zx2]) 0).run Tryd.prog w = .ok (.int .i64 zx0) w := by
  have ha : (isAgg 2).run Tryd.prog w = .ok false w := by
    unfold isAgg
    rw [Sem.run_bind, run_underlying Tryd.underlying2 w]
    rfl
  simp only [Instr.field, Sem.run_bind, run_underlying Tryd.underlying42, Result.andThen_ok]
  show ((part 2 #[.int .i64 zx0, .int .i64 zx1, .int .i64 zx2] 0).run Tryd.prog w) = _
  simp only [part, Sem.run_bind, ha, Result.andThen_ok]
  rfl
theorem fv_JDate_1 (zx0 : Int) (zx1 : Int) (zx2 : Int) (w : World) : (Instr.field 42 (.agg #[.int .i64 zx0, .int .i64 zx1, .int .i64 zx2]) 1).run Tryd.prog w = .ok (.int .i64 zx1) w := by
  have ha : (isAgg 3).run Tryd.prog w = .ok false w := by
    unfold isAgg
    rw [Sem.run_bind, run_underlying Tryd.underlying3 w]
    rfl
  simp only [Instr.field, Sem.run_bind, run_underlying Tryd.underlying42, Result.andThen_ok]
  show ((part 3 #[.int .i64 zx0, .int .i64 zx1, .int .i64 zx2] 1).run Tryd.prog w) = _
  simp only [part, Sem.run_bind, ha, Result.andThen_ok]
  rfl
theorem fv_JDate_2 (zx0 : Int) (zx1 : Int) (zx2 : Int) (w : World) : (Instr.field 42 (.agg #[.int .i64 zx0, .int .i64 zx1, .int .i64 zx2]) 2).run Tryd.prog w = .ok (.int .i64 zx2) w := by
  have ha : (isAgg 3).run Tryd.prog w = .ok false w := by
    unfold isAgg
    rw [Sem.run_bind, run_underlying Tryd.underlying3 w]
    rfl
  simp only [Instr.field, Sem.run_bind, run_underlying Tryd.underlying42, Result.andThen_ok]
  show ((part 3 #[.int .i64 zx0, .int .i64 zx1, .int .i64 zx2] 2).run Tryd.prog w) = _
  simp only [part, Sem.run_bind, ha, Result.andThen_ok]
  rfl
theorem es_JDate {w : World} {zx0 : Int} {zx1 : Int} {zx2 : Int} {zy0 : Int} {zy1 : Int} {zy2 : Int} {c : Bool} (h : decide (zx0 = zy0 ∧ zx1 = zy1 ∧ zx2 = zy2) = c) : (binOp .eql 42 (.agg #[.int .i64 zx0, .int .i64 zx1, .int .i64 zx2]) (.agg #[.int .i64 zy0, .int .i64 zy1, .int .i64 zy2])).run Tryd.prog w = .ok (.bool c) w := by
  subst h
  rw [run_eql_struct, run_equalIn_agg w 9999 _ _ _ (by kernel_rfl) (by kernel_rfl)]
  have hf : (Tryd.prog.fieldsOf 42).toList = (match Tryd.prog.underlying 42 with | some (.struct fs) => fs.toList | _ => []) := by kernel_rfl
  rw [hf, Tryd.underlying42]
  have hx : (Op.eqFields 9999 #[.int .i64 zx0, .int .i64 zx1, .int .i64 zx2] #[.int .i64 zy0, .int .i64 zy1, .int .i64 zy2] (match Tryd.prog.underlying 42 with | some (.struct fs) => fs.toList | _ => [])).run Tryd.prog w = .ok ((decide (zx0 = zy0) && (decide (zx1 = zy1) && (decide (zx2 = zy2) && true)))) w := by
    rw [Tryd.underlying42]
    exact eqf_int (by decide) Tryd.underlying2 rfl rfl (eqf_int (by decide) Tryd.underlying3 rfl rfl (eqf_int (by decide) Tryd.underlying3 rfl rfl (eqf_nil)))
  rw [Tryd.underlying42] at hx
  rw [hx]
  simp only [Result.andThen_ok, Bool.and_true, dec_and]
end Go.Proofs.YtcgbllbhagijjaaDoor
