/- Layer 12's structs. -/
import Derived.Test.YtmpdbkdijfpbbaaGreatDoorGO
import Derived.Test.YtmpdbkdijfpbbaaGreatDoorGH
namespace Go.Proofs.YtmpdbkdijfpbbaaGreatDoor
open Go.RowKit
set_option maxRecDepth 100000
set_option linter.unusedVariables false

theorem pair4 {a : Act} {i j k l : Nat} {x y z u : Operand} {p q r s : Value} (h : a.eval x = p) (h2 : a.eval y = q) (h3 : a.eval z = r) (h4 : a.eval u = s) : (#[(i, x), (j, y), (k, z), (l, u)].map fun (p : Nat × Operand) => (p.1, a.eval p.2)) = #[(i, p), (j, q), (k, r), (l, s)] := by simp [h, h2, h3, h4]
theorem pair5 {a : Act} {i j k l m : Nat} {x y z u v : Operand} {p q r s t : Value} (h : a.eval x = p) (h2 : a.eval y = q) (h3 : a.eval z = r) (h4 : a.eval u = s) (h5 : a.eval v = t) : (#[(i, x), (j, y), (k, z), (l, u), (m, v)].map fun (p : Nat × Operand) => (p.1, a.eval p.2)) = #[(i, p), (j, q), (k, r), (l, s), (m, t)] := by simp [h, h2, h3, h4, h5]
theorem sz_Orb : (Tryz.prog.info? 45).map (·.size) = some 12 := by kernel_rfl
theorem ze_Orb : (Tryz.prog.info? 45).bind (·.zero) = some (.agg #[.bool false, .slice none 0 0, .slice none 0 0, .bool false, .slice none 0 0, .slice none 0 0, .bool false, .slice none 0 0, .slice none 0 0, .bool false, .slice none 0 0, .slice none 0 0]) := by kernel_rfl
theorem ld_Orb {w : World} {g o : Nat} {cs vs : List Value} (h : Own w g cs) (hv : (cs.drop o).take 12 = vs) (hl : vs.length = 12) : (Instr.loadAt 45 (.pointer (some ⟨g, o, none⟩))).run Tryz.prog w = .ok (.agg vs.toArray) w := own_load h hv hl Tryz.underlying45 rfl sz_Orb
theorem st_Orb {w : World} {g o : Nat} {cs ws vs : List Value} (h : Own w g cs) (hl : vs.length = 12) (ho : Nat.ble (o + 12) cs.length = true) (h1 : ∀ v ∈ vs, v.oneCell' = true) (hn : ∀ v ∈ vs, notInt v) (hw : cs.take o ++ vs ++ cs.drop (o + 12) = ws) : ∃ w', (∀ v : Value, v.cells = vs.toArray → (Instr.storeAt 45 (.pointer (some ⟨g, o, none⟩)) v).run Tryz.prog w = .ok () w') ∧ Turned g w w' ∧ Own w' g ws := own_store h sz_Orb hl ho h1 hn hw
theorem fa_Orb_0 {w : World} {g o p : Nat} (hp : o + 0 = p) : (Instr.fieldAt 45 (.pointer (some ⟨g, o, none⟩)) 0).run Tryz.prog w = .ok (.pointer (some ⟨g, p, none⟩)) w := own_field Tryz.underlying45 rfl rfl sz_Rat rfl p hp
theorem fa_Orb_1 {w : World} {g o p : Nat} (hp : o + 3 = p) : (Instr.fieldAt 45 (.pointer (some ⟨g, o, none⟩)) 1).run Tryz.prog w = .ok (.pointer (some ⟨g, p, none⟩)) w := own_field Tryz.underlying45 rfl rfl sz_Rat rfl p hp
theorem fa_Orb_2 {w : World} {g o p : Nat} (hp : o + 6 = p) : (Instr.fieldAt 45 (.pointer (some ⟨g, o, none⟩)) 2).run Tryz.prog w = .ok (.pointer (some ⟨g, p, none⟩)) w := own_field Tryz.underlying45 rfl rfl sz_Rat rfl p hp
theorem fa_Orb_3 {w : World} {g o p : Nat} (hp : o + 9 = p) : (Instr.fieldAt 45 (.pointer (some ⟨g, o, none⟩)) 3).run Tryz.prog w = .ok (.pointer (some ⟨g, p, none⟩)) w := own_field Tryz.underlying45 rfl rfl sz_Rat rfl p hp
theorem fill3 {place : Nat → Option (Nat × Nat)} {cells : Array Value} {i off : Nat} {x y z : Value} {rest : List (Nat × Value)} (hp : place i = some (off, 3)) (hc : off + 3 ≤ cells.size) :
    Instr.fill place cells ((i, .agg #[x, y, z]) :: rest) = Instr.fill place (((cells.setIfInBounds off x).setIfInBounds (off + 1) y).setIfInBounds (off + 2) z) rest := by
  conv => lhs; unfold Instr.fill
  rw [hp]
  have h1 : (Value.agg #[x, y, z]).cells = #[x, y, z] := rfl
  simp only [h1]
  rw [if_neg (by simp; omega)]
  have h2 : ∀ f : Array Value → Value × Nat → Array Value, Array.foldl f cells #[x, y, z].zipIdx = f (f (f cells (x, 0)) (y, 1)) (z, 2) := fun f => rfl
  rw [h2]
  rfl
theorem bd_Orb_0123 (b00 : Bool) (a01 : Option Addr) (n01 c01 : Nat) (a02 : Option Addr) (n02 c02 : Nat) (b10 : Bool) (a11 : Option Addr) (n11 c11 : Nat) (a12 : Option Addr) (n12 c12 : Nat) (b20 : Bool) (a21 : Option Addr) (n21 c21 : Nat) (a22 : Option Addr) (n22 c22 : Nat) (b30 : Bool) (a31 : Option Addr) (n31 c31 : Nat) (a32 : Option Addr) (n32 c32 : Nat) (w : World) : (Instr.build 45 #[(0, .agg #[.bool b00, .slice a01 n01 c01, .slice a02 n02 c02]), (1, .agg #[.bool b10, .slice a11 n11 c11, .slice a12 n12 c12]), (2, .agg #[.bool b20, .slice a21 n21 c21, .slice a22 n22 c22]), (3, .agg #[.bool b30, .slice a31 n31 c31, .slice a32 n32 c32])]).run Tryz.prog w = .ok (.agg #[.bool b00, .slice a01 n01 c01, .slice a02 n02 c02, .bool b10, .slice a11 n11 c11, .slice a12 n12 c12, .bool b20, .slice a21 n21 c21, .slice a22 n22 c22, .bool b30, .slice a31 n31 c31, .slice a32 n32 c32]) w := by
  have hz := zero_run ze_Orb w
  have h_Rat : ∀ w, (sizeOf 32).run Tryz.prog w = .ok 3 w := fun w => size_run sz_Rat w
  simp only [Instr.build, Sem.run_bind, hz, Result.andThen_ok, run_underlying Tryz.underlying45, List.mapM_toArray, List.mapM_cons, List.mapM_nil, Sem.run_map, h_Rat, Sem.run_pure]
  rw [show (Value.agg #[Value.bool false, Value.slice none 0 0, Value.slice none 0 0, Value.bool false, Value.slice none 0 0, Value.slice none 0 0, Value.bool false, Value.slice none 0 0, Value.slice none 0 0, Value.bool false, Value.slice none 0 0, Value.slice none 0 0]).cells = #[Value.bool false, Value.slice none 0 0, Value.slice none 0 0, Value.bool false, Value.slice none 0 0, Value.slice none 0 0, Value.bool false, Value.slice none 0 0, Value.slice none 0 0, Value.bool false, Value.slice none 0 0, Value.slice none 0 0] from rfl]
  rw [fill3 (off := 0) rfl (by simp), fill3 (off := 3) rfl (by simp), fill3 (off := 6) rfl (by simp), fill3 (off := 9) rfl (by simp)]
  simp only [List.setIfInBounds_toArray, List.set_cons_zero, List.set_cons_succ, Nat.reduceAdd, Nat.zero_add]
  rfl
theorem sz_Elem : (Tryz.prog.info? 50).map (·.size) = some 5 := by kernel_rfl
theorem ze_Elem : (Tryz.prog.info? 50).bind (·.zero) = some (.agg #[.int .i64 0, .int .i64 0, .int .i64 0, .int .i64 0, .int .i64 0]) := by kernel_rfl
theorem ldb_Elem {w : World} {g o : Nat} {cs vs : List Value} (h : Blk w g cs) (hv : (cs.drop o).take 5 = vs) (hl : vs.length = 5) : (Instr.loadAt 50 (.pointer (some ⟨g, o, none⟩))).run Tryz.prog w = .ok (.agg vs.toArray) w := blk_load h hv hl Tryz.underlying50 rfl sz_Elem
theorem stb_Elem {w : World} {g o : Nat} {cs ws vs : List Value} (h : Blk w g cs) (hl : vs.length = 5) (ho : Nat.ble (o + 5) cs.length = true) (h1 : ∀ v ∈ vs, v.oneCell' = true) (hw : cs.take o ++ vs ++ cs.drop (o + 5) = ws) : ∃ w', (∀ v : Value, v.cells = vs.toArray → (Instr.storeAt 50 (.pointer (some ⟨g, o, none⟩)) v).run Tryz.prog w = .ok () w') ∧ Turned g w w' ∧ Blk w' g ws := blk_store h sz_Elem hl ho h1 hw
theorem fa_Elem_0 {w : World} {g o p : Nat} (hp : o + 0 = p) : (Instr.fieldAt 50 (.pointer (some ⟨g, o, none⟩)) 0).run Tryz.prog w = .ok (.pointer (some ⟨g, p, none⟩)) w := own_field Tryz.underlying50 rfl rfl sz_int rfl p hp
theorem fa_Elem_1 {w : World} {g o p : Nat} (hp : o + 1 = p) : (Instr.fieldAt 50 (.pointer (some ⟨g, o, none⟩)) 1).run Tryz.prog w = .ok (.pointer (some ⟨g, p, none⟩)) w := own_field Tryz.underlying50 rfl rfl sz_int rfl p hp
theorem fa_Elem_4 {w : World} {g o p : Nat} (hp : o + 4 = p) : (Instr.fieldAt 50 (.pointer (some ⟨g, o, none⟩)) 4).run Tryz.prog w = .ok (.pointer (some ⟨g, p, none⟩)) w := own_field Tryz.underlying50 rfl rfl sz_int rfl p hp
theorem bd_Elem_1234 (z10 : Int) (z20 : Int) (z30 : Int) (z40 : Int) (w : World) : (Instr.build 50 #[(1, .int .i64 z10), (2, .int .i64 z20), (3, .int .i64 z30), (4, .int .i64 z40)]).run Tryz.prog w = .ok (.agg #[.int .i64 0, .int .i64 z10, .int .i64 z20, .int .i64 z30, .int .i64 z40]) w := by
  have hz := zero_run ze_Elem w
  have h_int : ∀ w, (sizeOf 3).run Tryz.prog w = .ok 1 w := fun w => size_run sz_int w
  simp only [Instr.build, Sem.run_bind, hz, Result.andThen_ok, run_underlying Tryz.underlying50, List.mapM_toArray, List.mapM_cons, List.mapM_nil, Sem.run_map, h_int, Sem.run_pure]
  rfl
theorem bd_Elem_01234 (z00 : Int) (z10 : Int) (z20 : Int) (z30 : Int) (z40 : Int) (w : World) : (Instr.build 50 #[(0, .int .i64 z00), (1, .int .i64 z10), (2, .int .i64 z20), (3, .int .i64 z30), (4, .int .i64 z40)]).run Tryz.prog w = .ok (.agg #[.int .i64 z00, .int .i64 z10, .int .i64 z20, .int .i64 z30, .int .i64 z40]) w := by
  have hz := zero_run ze_Elem w
  have h_int : ∀ w, (sizeOf 3).run Tryz.prog w = .ok 1 w := fun w => size_run sz_int w
  simp only [Instr.build, Sem.run_bind, hz, Result.andThen_ok, run_underlying Tryz.underlying50, List.mapM_toArray, List.mapM_cons, List.mapM_nil, Sem.run_map, h_int, Sem.run_pure]
  rfl
theorem eg_Elem {w : World} {op : BinOp} {x y : Operand} {xs ys : Array Value} : (eqGuard op 50 x y (.agg xs) (.agg ys)).run Tryz.prog w = .ok () w := run_eqGuard_agg w op _ x y xs ys (by kernel_rfl)
theorem sz_RElem : (Tryz.prog.info? 52).map (·.size) = some 5 := by kernel_rfl
theorem ze_RElem : (Tryz.prog.info? 52).bind (·.zero) = some (.agg #[.int .i64 0, .int .i64 0, .int .i64 0, .int .i64 0, .int .i64 0]) := by kernel_rfl
theorem ldb_RElem {w : World} {g o : Nat} {cs vs : List Value} (h : Blk w g cs) (hv : (cs.drop o).take 5 = vs) (hl : vs.length = 5) : (Instr.loadAt 52 (.pointer (some ⟨g, o, none⟩))).run Tryz.prog w = .ok (.agg vs.toArray) w := blk_load h hv hl Tryz.underlying52 rfl sz_RElem
theorem stb_RElem {w : World} {g o : Nat} {cs ws vs : List Value} (h : Blk w g cs) (hl : vs.length = 5) (ho : Nat.ble (o + 5) cs.length = true) (h1 : ∀ v ∈ vs, v.oneCell' = true) (hw : cs.take o ++ vs ++ cs.drop (o + 5) = ws) : ∃ w', (∀ v : Value, v.cells = vs.toArray → (Instr.storeAt 52 (.pointer (some ⟨g, o, none⟩)) v).run Tryz.prog w = .ok () w') ∧ Turned g w w' ∧ Blk w' g ws := blk_store h sz_RElem hl ho h1 hw
theorem bd_RElem_01234 (z00 : Int) (z10 : Int) (z20 : Int) (z30 : Int) (z40 : Int) (w : World) : (Instr.build 52 #[(0, .int .i64 z00), (1, .int .i64 z10), (2, .int .i64 z20), (3, .int .i64 z30), (4, .int .i64 z40)]).run Tryz.prog w = .ok (.agg #[.int .i64 z00, .int .i64 z10, .int .i64 z20, .int .i64 z30, .int .i64 z40]) w := by
  have hz := zero_run ze_RElem w
  have h_int : ∀ w, (sizeOf 3).run Tryz.prog w = .ok 1 w := fun w => size_run sz_int w
  simp only [Instr.build, Sem.run_bind, hz, Result.andThen_ok, run_underlying Tryz.underlying52, List.mapM_toArray, List.mapM_cons, List.mapM_nil, Sem.run_map, h_int, Sem.run_pure]
  rfl
theorem eg_RElem {w : World} {op : BinOp} {x y : Operand} {xs ys : Array Value} : (eqGuard op 52 x y (.agg xs) (.agg ys)).run Tryz.prog w = .ok () w := run_eqGuard_agg w op _ x y xs ys (by kernel_rfl)
theorem es_Elem {w : World} {zx0 : Int} {zx1 : Int} {zx2 : Int} {zx3 : Int} {zx4 : Int} {zy0 : Int} {zy1 : Int} {zy2 : Int} {zy3 : Int} {zy4 : Int} {c : Bool} (h : decide (zx0 = zy0 ∧ zx1 = zy1 ∧ zx2 = zy2 ∧ zx3 = zy3 ∧ zx4 = zy4) = c) : (binOp .eql 50 (.agg #[.int .i64 zx0, .int .i64 zx1, .int .i64 zx2, .int .i64 zx3, .int .i64 zx4]) (.agg #[.int .i64 zy0, .int .i64 zy1, .int .i64 zy2, .int .i64 zy3, .int .i64 zy4])).run Tryz.prog w = .ok (.bool c) w := by
  subst h
  rw [run_eql_struct, run_equalIn_agg w 9999 _ _ _ (by kernel_rfl) (by kernel_rfl)]
  have hf : (Tryz.prog.fieldsOf 50).toList = (match Tryz.prog.underlying 50 with | some (.struct fs) => fs.toList | _ => []) := by kernel_rfl
  rw [hf, Tryz.underlying50]
  have hx : (Op.eqFields 9999 #[.int .i64 zx0, .int .i64 zx1, .int .i64 zx2, .int .i64 zx3, .int .i64 zx4] #[.int .i64 zy0, .int .i64 zy1, .int .i64 zy2, .int .i64 zy3, .int .i64 zy4] (match Tryz.prog.underlying 50 with | some (.struct fs) => fs.toList | _ => [])).run Tryz.prog w = .ok ((decide (zx0 = zy0) && (decide (zx1 = zy1) && (decide (zx2 = zy2) && (decide (zx3 = zy3) && (decide (zx4 = zy4) && true)))))) w := by
    rw [Tryz.underlying50]
    exact eqf_int (by decide) Tryz.underlying3 rfl rfl (eqf_int (by decide) Tryz.underlying3 rfl rfl (eqf_int (by decide) Tryz.underlying3 rfl rfl (eqf_int (by decide) Tryz.underlying3 rfl rfl (eqf_int (by decide) Tryz.underlying3 rfl rfl (eqf_nil)))))
  rw [Tryz.underlying50] at hx
  rw [hx]
  simp only [Result.andThen_ok, Bool.and_true, dec_and]
theorem es_RElem {w : World} {zx0 : Int} {zx1 : Int} {zx2 : Int} {zx3 : Int} {zx4 : Int} {zy0 : Int} {zy1 : Int} {zy2 : Int} {zy3 : Int} {zy4 : Int} {c : Bool} (h : decide (zx0 = zy0 ∧ zx1 = zy1 ∧ zx2 = zy2 ∧ zx3 = zy3 ∧ zx4 = zy4) = c) : (binOp .eql 52 (.agg #[.int .i64 zx0, .int .i64 zx1, .int .i64 zx2, .int .i64 zx3, .int .i64 zx4]) (.agg #[.int .i64 zy0, .int .i64 zy1, .int .i64 zy2, .int .i64 zy3, .int .i64 zy4])).run Tryz.prog w = .ok (.bool c) w := by
  subst h
  rw [run_eql_struct, run_equalIn_agg w 9999 _ _ _ (by kernel_rfl) (by kernel_rfl)]
  have hf : (Tryz.prog.fieldsOf 52).toList = (match Tryz.prog.underlying 52 with | some (.struct fs) => fs.toList | _ => []) := by kernel_rfl
  rw [hf, Tryz.underlying52]
  have hx : (Op.eqFields 9999 #[.int .i64 zx0, .int .i64 zx1, .int .i64 zx2, .int .i64 zx3, .int .i64 zx4] #[.int .i64 zy0, .int .i64 zy1, .int .i64 zy2, .int .i64 zy3, .int .i64 zy4] (match Tryz.prog.underlying 52 with | some (.struct fs) => fs.toList | _ => [])).run Tryz.prog w = .ok ((decide (zx0 = zy0) && (decide (zx1 = zy1) && (decide (zx2 = zy2) && (decide (zx3 = zy3) && (decide (zx4 = zy4) && true)))))) w := by
    rw [Tryz.underlying52]
    exact eqf_int (by decide) Tryz.underlying3 rfl rfl (eqf_int (by decide) Tryz.underlying3 rfl rfl (eqf_int (by decide) Tryz.underlying3 rfl rfl (eqf_int (by decide) Tryz.underlying3 rfl rfl (eqf_int (by decide) Tryz.underlying3 rfl rfl (eqf_nil)))))
  rw [Tryz.underlying52] at hx
  rw [hx]
  simp only [Result.andThen_ok, Bool.and_true, dec_and]
/-- An orbit of four rational numbers. -/
def Orb (w : World) (v : Value) (p an s c : Rat) : Prop :=
  ∃ b1 a1 n1 c1 d1 m1 e1 b2 a2 n2 c2 d2 m2 e2 b3 a3 n3 c3 d3 m3 e3 b4 a4 n4 c4 d4 m4 e4, v = .agg #[.bool b1, .slice a1 n1 c1, .slice d1 m1 e1, .bool b2, .slice a2 n2 c2, .slice d2 m2 e2, .bool b3, .slice a3 n3 c3, .slice d3 m3 e3, .bool b4, .slice a4 n4 c4, .slice d4 m4 e4] ∧
    Rq w (.agg #[.bool b1, .slice a1 n1 c1, .slice d1 m1 e1]) p ∧ Rq w (.agg #[.bool b2, .slice a2 n2 c2, .slice d2 m2 e2]) an ∧ Rq w (.agg #[.bool b3, .slice a3 n3 c3, .slice d3 m3 e3]) s ∧ Rq w (.agg #[.bool b4, .slice a4 n4 c4, .slice d4 m4 e4]) c
theorem Orb.below {w w' : World} {v : Value} {p an s c : Rat} (h : Orb w v p an s c) (hb : Below w.heap.size w w') : Orb w' v p an s c := by
  obtain ⟨b1, a1, n1, c1, d1, m1, e1, b2, a2, n2, c2, d2, m2, e2, b3, a3, n3, c3, d3, m3, e3, b4, a4, n4, c4, d4, m4, e4, h0, h1, h2, h3, h4⟩ := h
  exact ⟨b1, a1, n1, c1, d1, m1, e1, b2, a2, n2, c2, d2, m2, e2, b3, a3, n3, c3, d3, m3, e3, b4, a4, n4, c4, d4, m4, e4, h0, h1.below hb, h2.below hb, h3.below hb, h4.below hb⟩
def OrbPost (w : World) (p an s c : Rat) (e : Ending) (w' : World) : Prop := ∃ v, e = .returned v ∧ Orb w' v p an s c ∧ Below w.heap.size w w'
end Go.Proofs.YtmpdbkdijfpbbaaGreatDoor
