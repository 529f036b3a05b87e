import Derived.Test.YtnljadejcfgmaaaGreatDoorKC16
import Derived.Laws.StructEq
namespace Go.Proofs.YtnljadejcfgmaaaGreatDoor
open Go.RowKit
set_option maxRecDepth 100000
set_option linter.unusedVariables false
set_option maxHeartbeats 8000000
theorem sz_MMO:(Tryz.prog.info? 70).map (·.size)=some 4:=by kernel_rfl
theorem ze_MMO:(Tryz.prog.info? 70).bind (·.zero)=some (.agg #[.int .i64 0,.int .i64 0,.int .i64 0,.int .i64 0]):=by kernel_rfl
theorem ldb_MMO {w:World} {g o:Nat} {cs vs:List Value} (h:Blk w g cs) (hv:(cs.drop o).take 4=vs) (hl:vs.length=4):(Instr.loadAt 70 (.pointer (some ⟨g,o,none⟩))).run Tryz.prog w= .ok (.agg vs.toArray) w:=blk_load h hv hl Tryz.underlying70 rfl sz_MMO
theorem fa_MMO_0 {w:World} {g o p:Nat} (hp:o+0=p):(Instr.fieldAt 70 (.pointer (some ⟨g,o,none⟩)) 0).run Tryz.prog w= .ok (.pointer (some ⟨g,p,none⟩)) w:=own_field Tryz.underlying70 rfl rfl sz_i64 rfl p hp
theorem fa_MMO_1 {w:World} {g o p:Nat} (hp:o+1=p):(Instr.fieldAt 70 (.pointer (some ⟨g,o,none⟩)) 1).run Tryz.prog w= .ok (.pointer (some ⟨g,p,none⟩)) w:=own_field Tryz.underlying70 rfl rfl sz_i64 rfl p hp
theorem fa_MMO_2 {w:World} {g o p:Nat} (hp:o+2=p):(Instr.fieldAt 70 (.pointer (some ⟨g,o,none⟩)) 2).run Tryz.prog w= .ok (.pointer (some ⟨g,p,none⟩)) w:=own_field Tryz.underlying70 rfl rfl sz_int rfl p hp
theorem fa_MMO_3 {w:World} {g o p:Nat} (hp:o+3=p):(Instr.fieldAt 70 (.pointer (some ⟨g,o,none⟩)) 3).run Tryz.prog w= .ok (.pointer (some ⟨g,p,none⟩)) w:=own_field Tryz.underlying70 rfl rfl sz_int rfl p hp
theorem bd_MMO_0123 (z00:Int) (z10:Int) (z20:Int) (z30:Int) (w:World):(Instr.build 70 #[(0,.int .i64 z00),(1,.int .i64 z10),(2,.int .i64 z20),(3,.int .i64 z30)]).run Tryz.prog w= .ok (.agg #[.int .i64 z00,.int .i64 z10,.int .i64 z20,.int .i64 z30]) w:=by
 have hz:=zero_run ze_MMO w
 have h_int:∀w,(sizeOf 3).run Tryz.prog w= .ok 1 w:=fun w=>size_run sz_int w
 have h_i64:∀w,(sizeOf 2).run Tryz.prog w= .ok 1 w:=fun w=>size_run sz_i64 w
 simp only [Instr.build,Sem.run_bind,hz,Result.andThen_ok,run_underlying Tryz.underlying70,List.mapM_toArray,List.mapM_cons,List.mapM_nil,Sem.run_map,h_i64,h_int,Sem.run_pure]
 rfl
theorem bd_MMO_23 (z20:Int) (z30:Int) (w:World):(Instr.build 70 #[(2,.int .i64 z20),(3,.int .i64 z30)]).run Tryz.prog w= .ok (.agg #[.int .i64 0,.int .i64 0,.int .i64 z20,.int .i64 z30]) w:=by
 have hz:=zero_run ze_MMO w
 have h_int:∀w,(sizeOf 3).run Tryz.prog w= .ok 1 w:=fun w=>size_run sz_int w
 have h_i64:∀w,(sizeOf 2).run Tryz.prog w= .ok 1 w:=fun w=>size_run sz_i64 w
 simp only [Instr.build,Sem.run_bind,hz,Result.andThen_ok,run_underlying Tryz.underlying70,List.mapM_toArray,List.mapM_cons,List.mapM_nil,Sem.run_map,h_i64,h_int,Sem.run_pure]
 rfl
theorem sz_RMO:(Tryz.prog.info? 74).map (·.size)=some 4:=by kernel_rfl
theorem ze_RMO:(Tryz.prog.info? 74).bind (·.zero)=some (.agg #[.int .i64 0,.int .i64 0,.int .i64 0,.int .i64 0]):=by kernel_rfl
theorem bd_RMO_0123 (z00:Int) (z10:Int) (z20:Int) (z30:Int) (w:World):(Instr.build 74 #[(0,.int .i64 z00),(1,.int .i64 z10),(2,.int .i64 z20),(3,.int .i64 z30)]).run Tryz.prog w= .ok (.agg #[.int .i64 z00,.int .i64 z10,.int .i64 z20,.int .i64 z30]) w:=by
 have hz:=zero_run ze_RMO w
 have h_int:∀w,(sizeOf 3).run Tryz.prog w= .ok 1 w:=fun w=>size_run sz_int w
 simp only [Instr.build,Sem.run_bind,hz,Result.andThen_ok,run_underlying Tryz.underlying74,List.mapM_toArray,List.mapM_cons,List.mapM_nil,Sem.run_map,h_int,Sem.run_pure]
 rfl
theorem ty_MMO:Ty Tryz.prog 70 4 [.int .i64 0,.int .i64 0,.int .i64 0,.int .i64 0]:=⟨⟨_,Tryz.underlying70,rfl⟩,sz_MMO,ze_MMO⟩
theorem eg_MMO {w:World} {op:BinOp} {x y:Operand} {xs ys:Array Value}:(eqGuard op 70 x y (.agg xs) (.agg ys)).run Tryz.prog w= .ok () w:=run_eqGuard_agg w op _ x y xs ys (by kernel_rfl)
theorem eqa_MMO (w:World) {zx0:Int} {zx1:Int} {zx2:Int} {zx3:Int} {zy0:Int} {zy1:Int} {zy2:Int} {zy3:Int}:(Op.equalIn 10000 70 (.agg #[.int .i64 zx0,.int .i64 zx1,.int .i64 zx2,.int .i64 zx3]) (.agg #[.int .i64 zy0,.int .i64 zy1,.int .i64 zy2,.int .i64 zy3])).run Tryz.prog w= .ok (decide (zx0=zy0∧zx1=zy1∧zx2=zy2∧zx3=zy3)) w:=by
 rw[run_equalIn_agg w 9999 _ _ _ (by kernel_rfl) (by kernel_rfl)]
 have hf:(Tryz.prog.fieldsOf 70).toList =(match Tryz.prog.underlying 70 with|some (.struct fs)=>fs.toList|_=>[]):=by kernel_rfl
 rw[hf,Tryz.underlying70]
 have hx:(Op.eqFields 9999 #[.int .i64 zx0,.int .i64 zx1,.int .i64 zx2,.int .i64 zx3] #[.int .i64 zy0,.int .i64 zy1,.int .i64 zy2,.int .i64 zy3] (match Tryz.prog.underlying 70 with|some (.struct fs)=>fs.toList|_=>[])).run Tryz.prog w= .ok ((decide (zx0=zy0) && (decide (zx1=zy1) && (decide (zx2=zy2) && (decide (zx3=zy3) && true))))) w:=by
  rw[Tryz.underlying70]
  exact eqf_int (by decide) Tryz.underlying2 rfl rfl (eqf_int (by decide) Tryz.underlying2 rfl rfl (eqf_int (by decide) Tryz.underlying3 rfl rfl (eqf_int (by decide) Tryz.underlying3 rfl rfl (eqf_nil))))
 rw[Tryz.underlying70] at hx
 rw[hx]
 simp only [Bool.and_true,dec_and]
theorem es_MMO {w:World} {zx0:Int} {zx1:Int} {zx2:Int} {zx3:Int} {zy0:Int} {zy1:Int} {zy2:Int} {zy3:Int} {c:Bool} (h:decide (zx0=zy0∧zx1=zy1∧zx2=zy2∧zx3=zy3)=c):(binOp .eql 70 (.agg #[.int .i64 zx0,.int .i64 zx1,.int .i64 zx2,.int .i64 zx3]) (.agg #[.int .i64 zy0,.int .i64 zy1,.int .i64 zy2,.int .i64 zy3])).run Tryz.prog w= .ok (.bool c) w:=by
 subst h
 rw[run_eql_struct,eqa_MMO]
 rfl
theorem ens_MMO {w:World} {zx0:Int} {zx1:Int} {zx2:Int} {zx3:Int} {zy0:Int} {zy1:Int} {zy2:Int} {zy3:Int} {c:Bool} (h:decide (zx0=zy0∧zx1=zy1∧zx2=zy2∧zx3=zy3)=c):(binOp .neq 70 (.agg #[.int .i64 zx0,.int .i64 zx1,.int .i64 zx2,.int .i64 zx3]) (.agg #[.int .i64 zy0,.int .i64 zy1,.int .i64 zy2,.int .i64 zy3])).run Tryz.prog w= .ok (.bool (!c)) w:=by
 subst h
 rw[run_neq_struct,eqa_MMO]
 rfl
theorem ty_RMO:Ty Tryz.prog 74 4 [.int .i64 0,.int .i64 0,.int .i64 0,.int .i64 0]:=⟨⟨_,Tryz.underlying74,rfl⟩,sz_RMO,ze_RMO⟩
theorem eg_RMO {w:World} {op:BinOp} {x y:Operand} {xs ys:Array Value}:(eqGuard op 74 x y (.agg xs) (.agg ys)).run Tryz.prog w= .ok () w:=run_eqGuard_agg w op _ x y xs ys (by kernel_rfl)
theorem eqa_RMO (w:World) {zx0:Int} {zx1:Int} {zx2:Int} {zx3:Int} {zy0:Int} {zy1:Int} {zy2:Int} {zy3:Int}:(Op.equalIn 10000 74 (.agg #[.int .i64 zx0,.int .i64 zx1,.int .i64 zx2,.int .i64 zx3]) (.agg #[.int .i64 zy0,.int .i64 zy1,.int .i64 zy2,.int .i64 zy3])).run Tryz.prog w= .ok (decide (zx0=zy0∧zx1=zy1∧zx2=zy2∧zx3=zy3)) w:=by
 rw[run_equalIn_agg w 9999 _ _ _ (by kernel_rfl) (by kernel_rfl)]
 have hf:(Tryz.prog.fieldsOf 74).toList =(match Tryz.prog.underlying 74 with|some (.struct fs)=>fs.toList|_=>[]):=by kernel_rfl
 rw[hf,Tryz.underlying74]
 have hx:(Op.eqFields 9999 #[.int .i64 zx0,.int .i64 zx1,.int .i64 zx2,.int .i64 zx3] #[.int .i64 zy0,.int .i64 zy1,.int .i64 zy2,.int .i64 zy3] (match Tryz.prog.underlying 74 with|some (.struct fs)=>fs.toList|_=>[])).run Tryz.prog w= .ok ((decide (zx0=zy0) && (decide (zx1=zy1) && (decide (zx2=zy2) && (decide (zx3=zy3) && true))))) w:=by
  rw[Tryz.underlying74]
  exact eqf_int (by decide) Tryz.underlying3 rfl rfl (eqf_int (by decide) Tryz.underlying3 rfl rfl (eqf_int (by decide) Tryz.underlying3 rfl rfl (eqf_int (by decide) Tryz.underlying3 rfl rfl (eqf_nil))))
 rw[Tryz.underlying74] at hx
 rw[hx]
 simp only [Bool.and_true,dec_and]
theorem es_RMO {w:World} {zx0:Int} {zx1:Int} {zx2:Int} {zx3:Int} {zy0:Int} {zy1:Int} {zy2:Int} {zy3:Int} {c:Bool} (h:decide (zx0=zy0∧zx1=zy1∧zx2=zy2∧zx3=zy3)=c):(binOp .eql 74 (.agg #[.int .i64 zx0,.int .i64 zx1,.int .i64 zx2,.int .i64 zx3]) (.agg #[.int .i64 zy0,.int .i64 zy1,.int .i64 zy2,.int .i64 zy3])).run Tryz.prog w= .ok (.bool c) w:=by
 subst h
 rw[run_eql_struct,eqa_RMO]
 rfl
end Go.Proofs.YtnljadejcfgmaaaGreatDoor
