/- Stage 10's structs, of the moon's months. -/
import Derived.Test.YtnljadejcfgmaaaGO
import Derived.Test.YtnljadejcfgmaaaGH
import Derived.Laws.StructEq
namespace Go.Proofs.Ytnljadejcfgmaaa
open Go.RowKit
set_option maxRecDepth 100000
set_option linter.unusedVariables false

theorem sz_MMO : (Try.prog.info? 24).map (·.size) = some 4 := by kernel_rfl
theorem ze_MMO : (Try.prog.info? 24).bind (·.zero) = some (.agg #[.int .i64 0, .int .i64 0, .int .i64 0, .int .i64 0]) := by kernel_rfl
theorem ldb_MMO {w : World} {g o : Nat} {cs vs : List Value} (h : Blk w g cs) (hv : (cs.drop o).take 4 = vs) (hl : vs.length = 4) : (Instr.loadAt 24 (.pointer (some ⟨g, o, none⟩))).run Try.prog w = .ok (.agg vs.toArray) w := blk_load h hv hl Try.underlying24 rfl sz_MMO
theorem stb_MMO {w : World} {g o : Nat} {cs ws vs : List Value} (h : Blk w g cs) (hl : vs.length = 4) (ho : Nat.ble (o + 4) cs.length = true) (h1 : ∀ v ∈ vs, v.oneCell' = true) (hw : cs.take o ++ vs ++ cs.drop (o + 4) = ws) : ∃ w', (∀ v : Value, v.cells = vs.toArray → (Instr.storeAt 24 (.pointer (some ⟨g, o, none⟩)) v).run Try.prog w = .ok () w') ∧ Turned g w w' ∧ Blk w' g ws := blk_store h sz_MMO hl ho h1 hw
theorem fa_MMO_0 {w : World} {g o p : Nat} (hp : o + 0 = p) : (Instr.fieldAt 24 (.pointer (some ⟨g, o, none⟩)) 0).run Try.prog w = .ok (.pointer (some ⟨g, p, none⟩)) w := own_field Try.underlying24 rfl rfl sz_i64 rfl p hp
theorem fa_MMO_1 {w : World} {g o p : Nat} (hp : o + 1 = p) : (Instr.fieldAt 24 (.pointer (some ⟨g, o, none⟩)) 1).run Try.prog w = .ok (.pointer (some ⟨g, p, none⟩)) w := own_field Try.underlying24 rfl rfl sz_i64 rfl p hp
theorem fa_MMO_2 {w : World} {g o p : Nat} (hp : o + 2 = p) : (Instr.fieldAt 24 (.pointer (some ⟨g, o, none⟩)) 2).run Try.prog w = .ok (.pointer (some ⟨g, p, none⟩)) w := own_field Try.underlying24 rfl rfl sz_int rfl p hp
theorem fa_MMO_3 {w : World} {g o p : Nat} (hp : o + 3 = p) : (Instr.fieldAt 24 (.pointer (some ⟨g, o, none⟩)) 3).run Try.prog w = .ok (.pointer (some ⟨g, p, none⟩)) w := own_field Try.underlying24 rfl rfl sz_int rfl p hp
theorem bd_MMO_  (w : World) : (Instr.build 24 #[]).run Try.prog w = .ok (.agg #[.int .i64 0, .int .i64 0, .int .i64 0, .int .i64 0]) w := by
  have hz := zero_run ze_MMO w
  have h_int : ∀ w, (sizeOf 3).run Try.prog w = .ok 1 w := fun w => size_run sz_int w
  have h_i64 : ∀ w, (sizeOf 2).run Try.prog w = .ok 1 w := fun w => size_run sz_i64 w
  simp only [Instr.build, Sem.run_bind, hz, Result.andThen_ok, run_underlying Try.underlying24, List.mapM_toArray, List.mapM_cons, List.mapM_nil, Sem.run_map, h_i64, h_int, Sem.run_pure]
  rfl
theorem bd_MMO_0123 (z00 : Int) (z10 : Int) (z20 : Int) (z30 : Int) (w : World) : (Instr.build 24 #[(0, .int .i64 z00), (1, .int .i64 z10), (2, .int .i64 z20), (3, .int .i64 z30)]).run Try.prog w = .ok (.agg #[.int .i64 z00, .int .i64 z10, .int .i64 z20, .int .i64 z30]) w := by
  have hz := zero_run ze_MMO w
  have h_int : ∀ w, (sizeOf 3).run Try.prog w = .ok 1 w := fun w => size_run sz_int w
  have h_i64 : ∀ w, (sizeOf 2).run Try.prog w = .ok 1 w := fun w => size_run sz_i64 w
  simp only [Instr.build, Sem.run_bind, hz, Result.andThen_ok, run_underlying Try.underlying24, List.mapM_toArray, List.mapM_cons, List.mapM_nil, Sem.run_map, h_i64, h_int, Sem.run_pure]
  rfl
theorem bd_MMO_23 (z20 : Int) (z30 : Int) (w : World) : (Instr.build 24 #[(2, .int .i64 z20), (3, .int .i64 z30)]).run Try.prog w = .ok (.agg #[.int .i64 0, .int .i64 0, .int .i64 z20, .int .i64 z30]) w := by
  have hz := zero_run ze_MMO w
  have h_int : ∀ w, (sizeOf 3).run Try.prog w = .ok 1 w := fun w => size_run sz_int w
  have h_i64 : ∀ w, (sizeOf 2).run Try.prog w = .ok 1 w := fun w => size_run sz_i64 w
  simp only [Instr.build, Sem.run_bind, hz, Result.andThen_ok, run_underlying Try.underlying24, List.mapM_toArray, List.mapM_cons, List.mapM_nil, Sem.run_map, h_i64, h_int, Sem.run_pure]
  rfl
theorem sz_RMO : (Try.prog.info? 29).map (·.size) = some 4 := by kernel_rfl
theorem ze_RMO : (Try.prog.info? 29).bind (·.zero) = some (.agg #[.int .i64 0, .int .i64 0, .int .i64 0, .int .i64 0]) := by kernel_rfl
theorem ldb_RMO {w : World} {g o : Nat} {cs vs : List Value} (h : Blk w g cs) (hv : (cs.drop o).take 4 = vs) (hl : vs.length = 4) : (Instr.loadAt 29 (.pointer (some ⟨g, o, none⟩))).run Try.prog w = .ok (.agg vs.toArray) w := blk_load h hv hl Try.underlying29 rfl sz_RMO
theorem stb_RMO {w : World} {g o : Nat} {cs ws vs : List Value} (h : Blk w g cs) (hl : vs.length = 4) (ho : Nat.ble (o + 4) cs.length = true) (h1 : ∀ v ∈ vs, v.oneCell' = true) (hw : cs.take o ++ vs ++ cs.drop (o + 4) = ws) : ∃ w', (∀ v : Value, v.cells = vs.toArray → (Instr.storeAt 29 (.pointer (some ⟨g, o, none⟩)) v).run Try.prog w = .ok () w') ∧ Turned g w w' ∧ Blk w' g ws := blk_store h sz_RMO hl ho h1 hw
theorem fa_RMO_0 {w : World} {g o p : Nat} (hp : o + 0 = p) : (Instr.fieldAt 29 (.pointer (some ⟨g, o, none⟩)) 0).run Try.prog w = .ok (.pointer (some ⟨g, p, none⟩)) w := own_field Try.underlying29 rfl rfl sz_int rfl p hp
theorem fa_RMO_1 {w : World} {g o p : Nat} (hp : o + 1 = p) : (Instr.fieldAt 29 (.pointer (some ⟨g, o, none⟩)) 1).run Try.prog w = .ok (.pointer (some ⟨g, p, none⟩)) w := own_field Try.underlying29 rfl rfl sz_int rfl p hp
theorem fa_RMO_2 {w : World} {g o p : Nat} (hp : o + 2 = p) : (Instr.fieldAt 29 (.pointer (some ⟨g, o, none⟩)) 2).run Try.prog w = .ok (.pointer (some ⟨g, p, none⟩)) w := own_field Try.underlying29 rfl rfl sz_int rfl p hp
theorem fa_RMO_3 {w : World} {g o p : Nat} (hp : o + 3 = p) : (Instr.fieldAt 29 (.pointer (some ⟨g, o, none⟩)) 3).run Try.prog w = .ok (.pointer (some ⟨g, p, none⟩)) w := own_field Try.underlying29 rfl rfl sz_int rfl p hp
theorem bd_RMO_  (w : World) : (Instr.build 29 #[]).run Try.prog w = .ok (.agg #[.int .i64 0, .int .i64 0, .int .i64 0, .int .i64 0]) w := by
  have hz := zero_run ze_RMO w
  have h_int : ∀ w, (sizeOf 3).run Try.prog w = .ok 1 w := fun w => size_run sz_int w
  simp only [Instr.build, Sem.run_bind, hz, Result.andThen_ok, run_underlying Try.underlying29, List.mapM_toArray, List.mapM_cons, List.mapM_nil, Sem.run_map, h_int, Sem.run_pure]
  rfl
theorem bd_RMO_0123 (z00 : Int) (z10 : Int) (z20 : Int) (z30 : Int) (w : World) : (Instr.build 29 #[(0, .int .i64 z00), (1, .int .i64 z10), (2, .int .i64 z20), (3, .int .i64 z30)]).run Try.prog w = .ok (.agg #[.int .i64 z00, .int .i64 z10, .int .i64 z20, .int .i64 z30]) w := by
  have hz := zero_run ze_RMO w
  have h_int : ∀ w, (sizeOf 3).run Try.prog w = .ok 1 w := fun w => size_run sz_int w
  simp only [Instr.build, Sem.run_bind, hz, Result.andThen_ok, run_underlying Try.underlying29, List.mapM_toArray, List.mapM_cons, List.mapM_nil, Sem.run_map, h_int, Sem.run_pure]
  rfl
theorem bd_RMO_23 (z20 : Int) (z30 : Int) (w : World) : (Instr.build 29 #[(2, .int .i64 z20), (3, .int .i64 z30)]).run Try.prog w = .ok (.agg #[.int .i64 0, .int .i64 0, .int .i64 z20, .int .i64 z30]) w := by
  have hz := zero_run ze_RMO w
  have h_int : ∀ w, (sizeOf 3).run Try.prog w = .ok 1 w := fun w => size_run sz_int w
  simp only [Instr.build, Sem.run_bind, hz, Result.andThen_ok, run_underlying Try.underlying29, List.mapM_toArray, List.mapM_cons, List.mapM_nil, Sem.run_map, h_int, Sem.run_pure]
  rfl
theorem fv_MMO_0 (zx0 : Int) (zx1 : Int) (zx2 : Int) (zx3 : Int) (w : World) : (Instr.field 24 (.agg #[.int .i64 zx0, .int .i64 zx1, .int .i64 zx2, .int .i64 zx3]) 0).run Try.prog w = .ok (.int .i64 zx0) w := by
  have ha : (isAgg 2).run Try.prog w = .ok false w := by
    unfold isAgg
    rw [Sem.run_bind, run_underlying Try.underlying2 w]
    rfl
  simp only [Instr.field, Sem.run_bind, run_underlying Try.underlying24, Result.andThen_ok]
  show ((part 2 #[.int .i64 zx0, .int .i64 zx1, .int .i64 zx2, .int .i64 zx3] 0).run Try.prog w) = _
  simp only [part, Sem.run_bind, ha, Result.andThen_ok]
  rfl
theorem fv_MMO_1 (zx0 : Int) (zx1 : Int) (zx2 : Int) (zx3 : Int) (w : World) : (Instr.field 24 (.agg #[.int .i64 zx0, .int .i64 zx1, .int .i64 zx2, .int .i64 zx3]) 1).run Try.prog w = .ok (.int .i64 zx1) w := by
  have ha : (isAgg 2).run Try.prog w = .ok false w := by
    unfold isAgg
    rw [Sem.run_bind, run_underlying Try.underlying2 w]
    rfl
  simp only [Instr.field, Sem.run_bind, run_underlying Try.underlying24, Result.andThen_ok]
  show ((part 2 #[.int .i64 zx0, .int .i64 zx1, .int .i64 zx2, .int .i64 zx3] 1).run Try.prog w) = _
  simp only [part, Sem.run_bind, ha, Result.andThen_ok]
  rfl
theorem fv_MMO_2 (zx0 : Int) (zx1 : Int) (zx2 : Int) (zx3 : Int) (w : World) : (Instr.field 24 (.agg #[.int .i64 zx0, .int .i64 zx1, .int .i64 zx2, .int .i64 zx3]) 2).run Try.prog w = .ok (.int .i64 zx2) w := by
  have ha : (isAgg 3).run Try.prog w = .ok false w := by
    unfold isAgg
    rw [Sem.run_bind, run_underlying Try.underlying3 w]
    rfl
  simp only [Instr.field, Sem.run_bind, run_underlying Try.underlying24, Result.andThen_ok]
  show ((part 3 #[.int .i64 zx0, .int .i64 zx1, .int .i64 zx2, .int .i64 zx3] 2).run Try.prog w) = _
  simp only [part, Sem.run_bind, ha, Result.andThen_ok]
  rfl
theorem fv_MMO_3 (zx0 : Int) (zx1 : Int) (zx2 : Int) (zx3 : Int) (w : World) : (Instr.field 24 (.agg #[.int .i64 zx0, .int .i64 zx1, .int .i64 zx2, .int .i64 zx3]) 3).run Try.prog w = .ok (.int .i64 zx3) w := by
  have ha : (isAgg 3).run Try.prog w = .ok false w := by
    unfold isAgg
    rw [Sem.run_bind, run_underlying Try.underlying3 w]
    rfl
  simp only [Instr.field, Sem.run_bind, run_underlying Try.underlying24, Result.andThen_ok]
  show ((part 3 #[.int .i64 zx0, .int .i64 zx1, .int .i64 zx2, .int .i64 zx3] 3).run Try.prog w) = _
  simp only [part, Sem.run_bind, ha, Result.andThen_ok]
  rfl
theorem fv_RMO_0 (zx0 : Int) (zx1 : Int) (zx2 : Int) (zx3 : Int) (w : World) : (Instr.field 29 (.agg #[.int .i64 zx0, .int .i64 zx1, .int .i64 zx2, .int .i64 zx3]) 0).run Try.prog w = .ok (.int .i64 zx0) w := by
  have ha : (isAgg 3).run Try.prog w = .ok false w := by
    unfold isAgg
    rw [Sem.run_bind, run_underlying Try.underlying3 w]
    rfl
  simp only [Instr.field, Sem.run_bind, run_underlying Try.underlying29, Result.andThen_ok]
  show ((part 3 #[.int .i64 zx0, .int .i64 zx1, .int .i64 zx2, .int .i64 zx3] 0).run Try.prog w) = _
  simp only [part, Sem.run_bind, ha, Result.andThen_ok]
  rfl
theorem fv_RMO_1 (zx0 : Int) (zx1 : Int) (zx2 : Int) (zx3 : Int) (w : World) : (Instr.field 29 (.agg #[.int .i64 zx0, .int .i64 zx1, .int .i64 zx2, .int .i64 zx3]) 1).run Try.prog w = .ok (.int .i64 zx1) w := by
  have ha : (isAgg 3).run Try.prog w = .ok false w := by
    unfold isAgg
    rw [Sem.run_bind, run_underlying Try.underlying3 w]
    rfl
  simp only [Instr.field, Sem.run_bind, run_underlying Try.underlying29, Result.andThen_ok]
  show ((part 3 #[.int .i64 zx0, .int .i64 zx1, .int .i64 zx2, .int .i64 zx3] 1).run Try.prog w) = _
  simp only [part, Sem.run_bind, ha, Result.andThen_ok]
  rfl
theorem fv_RMO_2 (zx0 : Int) (zx1 : Int) (zx2 : Int) (zx3 : Int) (w : World) : (Instr.field 29 (.agg #[.int .i64 zx0, .int .i64 zx1, .int .i64 zx2, .int .i64 zx3]) 2).run Try.prog w = .ok (.int .i64 zx2) w := by
  have ha : (isAgg 3).run Try.prog w = .ok false w := by
    unfold isAgg
    rw [Sem.run_bind, run_underlying Try.underlying3 w]
    rfl
  simp only [Instr.field, Sem.run_bind, run_underlying Try.underlying29, Result.andThen_ok]
  show ((part 3 #[.int .i64 zx0, .int .i64 zx1, .int .i64 zx2, .int .i64 zx3] 2).run Try.prog w) = _
  simp only [part, Sem.run_bind, ha, Result.andThen_ok]
  rfl
theorem fv_RMO_3 (zx0 : Int) (zx1 : Int) (zx2 : Int) (zx3 : Int) (w : World) : (Instr.field 29 (.agg #[.int .i64 zx0, .int .i64 zx1, .int .i64 zx2, .int .i64 zx3]) 3).run Try.prog w = .ok (.int .i64 zx3) w := by
  have ha : (isAgg 3).run Try.prog w = .ok false w := by
    unfold isAgg
    rw [Sem.run_bind, run_underlying Try.underlying3 w]
    rfl
  simp only [Instr.field, Sem.run_bind, run_underlying Try.underlying29, Result.andThen_ok]
  show ((part 3 #[.int .i64 zx0, .int .i64 zx1, .int .i64 zx2, .int .i64 zx3] 3).run Try.prog w) = _
  simp only [part, Sem.run_bind, ha, Result.andThen_ok]
  rfl
theorem ty_MMO : Ty Try.prog 24 4 [.int .i64 0, .int .i64 0, .int .i64 0, .int .i64 0] := ⟨⟨_, Try.underlying24, rfl⟩, sz_MMO, ze_MMO⟩
theorem eg_MMO {w : World} {op : BinOp} {x y : Operand} {xs ys : Array Value} : (eqGuard op 24 x y (.agg xs) (.agg ys)).run Try.prog w = .ok () w := run_eqGuard_agg w op _ x y xs ys (by kernel_rfl)
theorem eqa_MMO (w : World) {zx0 : Int} {zx1 : Int} {zx2 : Int} {zx3 : Int} {zy0 : Int} {zy1 : Int} {zy2 : Int} {zy3 : Int} : (Op.equalIn 10000 24 (.agg #[.int .i64 zx0, .int .i64 zx1, .int .i64 zx2, .int .i64 zx3]) (.agg #[.int .i64 zy0, .int .i64 zy1, .int .i64 zy2, .int .i64 zy3])).run Try.prog w = .ok (decide (zx0 = zy0 ∧ zx1 = zy1 ∧ zx2 = zy2 ∧ zx3 = zy3)) w := by
  rw [run_equalIn_agg w 9999 _ _ _ (by kernel_rfl) (by kernel_rfl)]
  have hf : (Try.prog.fieldsOf 24).toList = (match Try.prog.underlying 24 with | some (.struct fs) => fs.toList | _ => []) := by kernel_rfl
  rw [hf, Try.underlying24]
  have hx : (Op.eqFields 9999 #[.int .i64 zx0, .int .i64 zx1, .int .i64 zx2, .int .i64 zx3] #[.int .i64 zy0, .int .i64 zy1, .int .i64 zy2, .int .i64 zy3] (match Try.prog.underlying 24 with | some (.struct fs) => fs.toList | _ => [])).run Try.prog w = .ok ((decide (zx0 = zy0) && (decide (zx1 = zy1) && (decide (zx2 = zy2) && (decide (zx3 = zy3) && true))))) w := by
    rw [Try.underlying24]
    exact eqf_int (by decide) Try.underlying2 rfl rfl (eqf_int (by decide) Try.underlying2 rfl rfl (eqf_int (by decide) Try.underlying3 rfl rfl (eqf_int (by decide) Try.underlying3 rfl rfl (eqf_nil))))
  rw [Try.underlying24] at hx
  rw [hx]
  simp only [Bool.and_true, dec_and]
theorem es_MMO {w : World} {zx0 : Int} {zx1 : Int} {zx2 : Int} {zx3 : Int} {zy0 : Int} {zy1 : Int} {zy2 : Int} {zy3 : Int} {c : Bool} (h : decide (zx0 = zy0 ∧ zx1 = zy1 ∧ zx2 = zy2 ∧ zx3 = zy3) = c) : (binOp .eql 24 (.agg #[.int .i64 zx0, .int .i64 zx1, .int .i64 zx2, .int .i64 zx3]) (.agg #[.int .i64 zy0, .int .i64 zy1, .int .i64 zy2, .int .i64 zy3])).run Try.prog w = .ok (.bool c) w := by
  subst h
  rw [run_eql_struct, eqa_MMO]
  rfl
theorem ens_MMO {w : World} {zx0 : Int} {zx1 : Int} {zx2 : Int} {zx3 : Int} {zy0 : Int} {zy1 : Int} {zy2 : Int} {zy3 : Int} {c : Bool} (h : decide (zx0 = zy0 ∧ zx1 = zy1 ∧ zx2 = zy2 ∧ zx3 = zy3) = c) : (binOp .neq 24 (.agg #[.int .i64 zx0, .int .i64 zx1, .int .i64 zx2, .int .i64 zx3]) (.agg #[.int .i64 zy0, .int .i64 zy1, .int .i64 zy2, .int .i64 zy3])).run Try.prog w = .ok (.bool (!c)) w := by
  subst h
  rw [run_neq_struct, eqa_MMO]
  rfl
theorem ty_RMO : Ty Try.prog 29 4 [.int .i64 0, .int .i64 0, .int .i64 0, .int .i64 0] := ⟨⟨_, Try.underlying29, rfl⟩, sz_RMO, ze_RMO⟩
theorem eg_RMO {w : World} {op : BinOp} {x y : Operand} {xs ys : Array Value} : (eqGuard op 29 x y (.agg xs) (.agg ys)).run Try.prog w = .ok () w := run_eqGuard_agg w op _ x y xs ys (by kernel_rfl)
theorem eqa_RMO (w : World) {zx0 : Int} {zx1 : Int} {zx2 : Int} {zx3 : Int} {zy0 : Int} {zy1 : Int} {zy2 : Int} {zy3 : Int} : (Op.equalIn 10000 29 (.agg #[.int .i64 zx0, .int .i64 zx1, .int .i64 zx2, .int .i64 zx3]) (.agg #[.int .i64 zy0, .int .i64 zy1, .int .i64 zy2, .int .i64 zy3])).run Try.prog w = .ok (decide (zx0 = zy0 ∧ zx1 = zy1 ∧ zx2 = zy2 ∧ zx3 = zy3)) w := by
  rw [run_equalIn_agg w 9999 _ _ _ (by kernel_rfl) (by kernel_rfl)]
  have hf : (Try.prog.fieldsOf 29).toList = (match Try.prog.underlying 29 with | some (.struct fs) => fs.toList | _ => []) := by kernel_rfl
  rw [hf, Try.underlying29]
  have hx : (Op.eqFields 9999 #[.int .i64 zx0, .int .i64 zx1, .int .i64 zx2, .int .i64 zx3] #[.int .i64 zy0, .int .i64 zy1, .int .i64 zy2, .int .i64 zy3] (match Try.prog.underlying 29 with | some (.struct fs) => fs.toList | _ => [])).run Try.prog w = .ok ((decide (zx0 = zy0) && (decide (zx1 = zy1) && (decide (zx2 = zy2) && (decide (zx3 = zy3) && true))))) w := by
    rw [Try.underlying29]
    exact eqf_int (by decide) Try.underlying3 rfl rfl (eqf_int (by decide) Try.underlying3 rfl rfl (eqf_int (by decide) Try.underlying3 rfl rfl (eqf_int (by decide) Try.underlying3 rfl rfl (eqf_nil))))
  rw [Try.underlying29] at hx
  rw [hx]
  simp only [Bool.and_true, dec_and]
theorem es_RMO {w : World} {zx0 : Int} {zx1 : Int} {zx2 : Int} {zx3 : Int} {zy0 : Int} {zy1 : Int} {zy2 : Int} {zy3 : Int} {c : Bool} (h : decide (zx0 = zy0 ∧ zx1 = zy1 ∧ zx2 = zy2 ∧ zx3 = zy3) = c) : (binOp .eql 29 (.agg #[.int .i64 zx0, .int .i64 zx1, .int .i64 zx2, .int .i64 zx3]) (.agg #[.int .i64 zy0, .int .i64 zy1, .int .i64 zy2, .int .i64 zy3])).run Try.prog w = .ok (.bool c) w := by
  subst h
  rw [run_eql_struct, eqa_RMO]
  rfl
theorem ens_RMO {w : World} {zx0 : Int} {zx1 : Int} {zx2 : Int} {zx3 : Int} {zy0 : Int} {zy1 : Int} {zy2 : Int} {zy3 : Int} {c : Bool} (h : decide (zx0 = zy0 ∧ zx1 = zy1 ∧ zx2 = zy2 ∧ zx3 = zy3) = c) : (binOp .neq 29 (.agg #[.int .i64 zx0, .int .i64 zx1, .int .i64 zx2, .int .i64 zx3]) (.agg #[.int .i64 zy0, .int .i64 zy1, .int .i64 zy2, .int .i64 zy3])).run Try.prog w = .ok (.bool (!c)) w := by
  subst h
  rw [run_neq_struct, eqa_RMO]
  rfl
end Go.Proofs.Ytnljadejcfgmaaa
