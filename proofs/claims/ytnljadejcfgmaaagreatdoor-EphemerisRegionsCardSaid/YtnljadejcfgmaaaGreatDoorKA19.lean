import Derived.Test.YtnljadejcfgmaaaGreatDoorKA13
import Derived.Laws.StructEq
namespace Go.Proofs.YtnljadejcfgmaaaGreatDoor
open Go.RowKit
set_option maxRecDepth 100000
set_option linter.unusedVariables false
set_option maxHeartbeats 8000000
theorem sz_SOD:(Tryz.prog.info? 51).map (·.size)=some 3:=by kernel_rfl
theorem ze_SOD:(Tryz.prog.info? 51).bind (·.zero)=some (.agg #[.int .i64 0,.int .i64 0,.int .i64 0]):=by kernel_rfl
theorem fa_SOD_0 {w:World} {g o p:Nat} (hp:o+0=p):(Instr.fieldAt 51 (.pointer (some ⟨g,o,none⟩)) 0).run Tryz.prog w= .ok (.pointer (some ⟨g,p,none⟩)) w:=own_field Tryz.underlying51 rfl rfl sz_i64 rfl p hp
theorem fa_SOD_1 {w:World} {g o p:Nat} (hp:o+1=p):(Instr.fieldAt 51 (.pointer (some ⟨g,o,none⟩)) 1).run Tryz.prog w= .ok (.pointer (some ⟨g,p,none⟩)) w:=own_field Tryz.underlying51 rfl rfl sz_int rfl p hp
theorem fa_SOD_2 {w:World} {g o p:Nat} (hp:o+2=p):(Instr.fieldAt 51 (.pointer (some ⟨g,o,none⟩)) 2).run Tryz.prog w= .ok (.pointer (some ⟨g,p,none⟩)) w:=own_field Tryz.underlying51 rfl rfl sz_int rfl p hp
theorem bd_SOD_ (w:World):(Instr.build 51 #[]).run Tryz.prog w= .ok (.agg #[.int .i64 0,.int .i64 0,.int .i64 0]) w:=by
 have hz:=zero_run ze_SOD w
 have h_int:∀w,(sizeOf 3).run Tryz.prog w= .ok 1 w:=fun w=>size_run sz_int w
 have h_i64:∀w,(sizeOf 2).run Tryz.prog w= .ok 1 w:=fun w=>size_run sz_i64 w
 simp only [Instr.build,Sem.run_bind,hz,Result.andThen_ok,run_underlying Tryz.underlying51,List.mapM_toArray,List.mapM_cons,List.mapM_nil,Sem.run_map,h_i64,h_int,Sem.run_pure]
 rfl
theorem bd_SOD_012 (z00:Int) (z10:Int) (z20:Int) (w:World):(Instr.build 51 #[(0,.int .i64 z00),(1,.int .i64 z10),(2,.int .i64 z20)]).run Tryz.prog w= .ok (.agg #[.int .i64 z00,.int .i64 z10,.int .i64 z20]) w:=by
 have hz:=zero_run ze_SOD w
 have h_int:∀w,(sizeOf 3).run Tryz.prog w= .ok 1 w:=fun w=>size_run sz_int w
 have h_i64:∀w,(sizeOf 2).run Tryz.prog w= .ok 1 w:=fun w=>size_run sz_i64 w
 simp only [Instr.build,Sem.run_bind,hz,Result.andThen_ok,run_underlying Tryz.underlying51,List.mapM_toArray,List.mapM_cons,List.mapM_nil,Sem.run_map,h_i64,h_int,Sem.run_pure]
 rfl
theorem bd_SOD_12 (z10:Int) (z20:Int) (w:World):(Instr.build 51 #[(1,.int .i64 z10),(2,.int .i64 z20)]).run Tryz.prog w= .ok (.agg #[.int .i64 0,.int .i64 z10,.int .i64 z20]) w:=by
 have hz:=zero_run ze_SOD w
 have h_int:∀w,(sizeOf 3).run Tryz.prog w= .ok 1 w:=fun w=>size_run sz_int w
 have h_i64:∀w,(sizeOf 2).run Tryz.prog w= .ok 1 w:=fun w=>size_run sz_i64 w
 simp only [Instr.build,Sem.run_bind,hz,Result.andThen_ok,run_underlying Tryz.underlying51,List.mapM_toArray,List.mapM_cons,List.mapM_nil,Sem.run_map,h_i64,h_int,Sem.run_pure]
 rfl
theorem sz_WHR:(Tryz.prog.info? 23).map (·.size)=some 4:=by kernel_rfl
theorem ze_WHR:(Tryz.prog.info? 23).bind (·.zero)=some (.agg #[.int .i64 0,.int .i64 0,.int .i64 0,.int .i64 0]):=by kernel_rfl
theorem fa_WHR_0 {w:World} {g o p:Nat} (hp:o+0=p):(Instr.fieldAt 23 (.pointer (some ⟨g,o,none⟩)) 0).run Tryz.prog w= .ok (.pointer (some ⟨g,p,none⟩)) w:=own_field Tryz.underlying23 rfl rfl sz_i64 rfl p hp
theorem fa_WHR_1 {w:World} {g o p:Nat} (hp:o+1=p):(Instr.fieldAt 23 (.pointer (some ⟨g,o,none⟩)) 1).run Tryz.prog w= .ok (.pointer (some ⟨g,p,none⟩)) w:=own_field Tryz.underlying23 rfl rfl sz_i64 rfl p hp
theorem fa_WHR_2 {w:World} {g o p:Nat} (hp:o+2=p):(Instr.fieldAt 23 (.pointer (some ⟨g,o,none⟩)) 2).run Tryz.prog w= .ok (.pointer (some ⟨g,p,none⟩)) w:=own_field Tryz.underlying23 rfl rfl sz_i64 rfl p hp
theorem fa_WHR_3 {w:World} {g o p:Nat} (hp:o+3=p):(Instr.fieldAt 23 (.pointer (some ⟨g,o,none⟩)) 3).run Tryz.prog w= .ok (.pointer (some ⟨g,p,none⟩)) w:=own_field Tryz.underlying23 rfl rfl sz_i64 rfl p hp
theorem ty_SOD:Ty Tryz.prog 51 3 [.int .i64 0,.int .i64 0,.int .i64 0]:=⟨⟨_,Tryz.underlying51,rfl⟩,sz_SOD,ze_SOD⟩
theorem eg_SOD {w:World} {op:BinOp} {x y:Operand} {xs ys:Array Value}:(eqGuard op 51 x y (.agg xs) (.agg ys)).run Tryz.prog w= .ok () w:=run_eqGuard_agg w op _ x y xs ys (by kernel_rfl)
theorem eqa_SOD (w:World) {zx0:Int} {zx1:Int} {zx2:Int} {zy0:Int} {zy1:Int} {zy2:Int}:(Op.equalIn 10000 51 (.agg #[.int .i64 zx0,.int .i64 zx1,.int .i64 zx2]) (.agg #[.int .i64 zy0,.int .i64 zy1,.int .i64 zy2])).run Tryz.prog w= .ok (decide (zx0=zy0∧zx1=zy1∧zx2=zy2)) w:=by
 rw[run_equalIn_agg w 9999 _ _ _ (by kernel_rfl) (by kernel_rfl)]
 have hf:(Tryz.prog.fieldsOf 51).toList =(match Tryz.prog.underlying 51 with|some (.struct fs)=>fs.toList|_=>[]):=by kernel_rfl
 rw[hf,Tryz.underlying51]
 have hx:(Op.eqFields 9999 #[.int .i64 zx0,.int .i64 zx1,.int .i64 zx2] #[.int .i64 zy0,.int .i64 zy1,.int .i64 zy2] (match Tryz.prog.underlying 51 with|some (.struct fs)=>fs.toList|_=>[])).run Tryz.prog w= .ok ((decide (zx0=zy0) && (decide (zx1=zy1) && (decide (zx2=zy2) && true)))) w:=by
  rw[Tryz.underlying51]
  exact eqf_int (by decide) Tryz.underlying2 rfl rfl (eqf_int (by decide) Tryz.underlying3 rfl rfl (eqf_int (by decide) Tryz.underlying3 rfl rfl (eqf_nil)))
 rw[Tryz.underlying51] at hx
 rw[hx]
 simp only [Bool.and_true,dec_and]
theorem es_SOD {w:World} {zx0:Int} {zx1:Int} {zx2:Int} {zy0:Int} {zy1:Int} {zy2:Int} {c:Bool} (h:decide (zx0=zy0∧zx1=zy1∧zx2=zy2)=c):(binOp .eql 51 (.agg #[.int .i64 zx0,.int .i64 zx1,.int .i64 zx2]) (.agg #[.int .i64 zy0,.int .i64 zy1,.int .i64 zy2])).run Tryz.prog w= .ok (.bool c) w:=by
 subst h
 rw[run_eql_struct,eqa_SOD]
 rfl
theorem ens_SOD {w:World} {zx0:Int} {zx1:Int} {zx2:Int} {zy0:Int} {zy1:Int} {zy2:Int} {c:Bool} (h:decide (zx0=zy0∧zx1=zy1∧zx2=zy2)=c):(binOp .neq 51 (.agg #[.int .i64 zx0,.int .i64 zx1,.int .i64 zx2]) (.agg #[.int .i64 zy0,.int .i64 zy1,.int .i64 zy2])).run Tryz.prog w= .ok (.bool (!c)) w:=by
 subst h
 rw[run_neq_struct,eqa_SOD]
 rfl
theorem ty_WHR:Ty Tryz.prog 23 4 [.int .i64 0,.int .i64 0,.int .i64 0,.int .i64 0]:=⟨⟨_,Tryz.underlying23,rfl⟩,sz_WHR,ze_WHR⟩
end Go.Proofs.YtnljadejcfgmaaaGreatDoor
