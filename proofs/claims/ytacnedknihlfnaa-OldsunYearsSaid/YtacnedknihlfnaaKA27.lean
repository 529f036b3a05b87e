import Derived.Test.YtacnedknihlfnaaKA21
import Derived.Laws.StructEq
namespace Go.Proofs.Ytacnedknihlfnaa
open Go.RowKit
set_option maxRecDepth 100000
set_option linter.unusedVariables false
set_option maxHeartbeats 8000000
theorem sz_OSD:(Try.prog.info? 24).map (·.size)=some 3:=by kernel_rfl
theorem ze_OSD:(Try.prog.info? 24).bind (·.zero)=some (.agg #[.int .i64 0,.int .i64 0,.int .i64 0]):=by kernel_rfl
theorem fa_OSD_0 {w:World} {g o p:Nat} (hp:o+0=p):(Instr.fieldAt 24 (.pointer (some ⟨g,o,none⟩)) 0).run Try.prog w= .ok (.pointer (some ⟨g,p,none⟩)) w:=own_field Try.underlying24 rfl rfl sz_i64 rfl p hp
theorem fa_OSD_1 {w:World} {g o p:Nat} (hp:o+1=p):(Instr.fieldAt 24 (.pointer (some ⟨g,o,none⟩)) 1).run Try.prog w= .ok (.pointer (some ⟨g,p,none⟩)) w:=own_field Try.underlying24 rfl rfl sz_int rfl p hp
theorem fa_OSD_2 {w:World} {g o p:Nat} (hp:o+2=p):(Instr.fieldAt 24 (.pointer (some ⟨g,o,none⟩)) 2).run Try.prog w= .ok (.pointer (some ⟨g,p,none⟩)) w:=own_field Try.underlying24 rfl rfl sz_int rfl p hp
theorem bd_OSD_ (w:World):(Instr.build 24 #[]).run Try.prog w= .ok (.agg #[.int .i64 0,.int .i64 0,.int .i64 0]) w:=by
 have hz:=zero_run ze_OSD w
 have h_int:∀w,(sizeOf 3).run Try.prog w= .ok 1 w:=fun w=>size_run sz_int w
 have h_i64:∀w,(sizeOf 2).run Try.prog w= .ok 1 w:=fun w=>size_run sz_i64 w
 simp only [Instr.build,Sem.run_bind,hz,Result.andThen_ok,run_underlying Try.underlying24,List.mapM_toArray,List.mapM_cons,List.mapM_nil,Sem.run_map,h_i64,h_int,Sem.run_pure]
 rfl
theorem bd_OSD_012 (z00:Int) (z10:Int) (z20:Int) (w:World):(Instr.build 24 #[(0,.int .i64 z00),(1,.int .i64 z10),(2,.int .i64 z20)]).run Try.prog w= .ok (.agg #[.int .i64 z00,.int .i64 z10,.int .i64 z20]) w:=by
 have hz:=zero_run ze_OSD w
 have h_int:∀w,(sizeOf 3).run Try.prog w= .ok 1 w:=fun w=>size_run sz_int w
 have h_i64:∀w,(sizeOf 2).run Try.prog w= .ok 1 w:=fun w=>size_run sz_i64 w
 simp only [Instr.build,Sem.run_bind,hz,Result.andThen_ok,run_underlying Try.underlying24,List.mapM_toArray,List.mapM_cons,List.mapM_nil,Sem.run_map,h_i64,h_int,Sem.run_pure]
 rfl
theorem bd_OSD_12 (z10:Int) (z20:Int) (w:World):(Instr.build 24 #[(1,.int .i64 z10),(2,.int .i64 z20)]).run Try.prog w= .ok (.agg #[.int .i64 0,.int .i64 z10,.int .i64 z20]) w:=by
 have hz:=zero_run ze_OSD w
 have h_int:∀w,(sizeOf 3).run Try.prog w= .ok 1 w:=fun w=>size_run sz_int w
 have h_i64:∀w,(sizeOf 2).run Try.prog w= .ok 1 w:=fun w=>size_run sz_i64 w
 simp only [Instr.build,Sem.run_bind,hz,Result.andThen_ok,run_underlying Try.underlying24,List.mapM_toArray,List.mapM_cons,List.mapM_nil,Sem.run_map,h_i64,h_int,Sem.run_pure]
 rfl
theorem ty_OSD:Ty Try.prog 24 3 [.int .i64 0,.int .i64 0,.int .i64 0]:=⟨⟨_,Try.underlying24,rfl⟩,sz_OSD,ze_OSD⟩
theorem eg_OSD {w:World} {op:BinOp} {x y:Operand} {xs ys:Array Value}:(eqGuard op 24 x y (.agg xs) (.agg ys)).run Try.prog w= .ok () w:=run_eqGuard_agg w op _ x y xs ys (by kernel_rfl)
theorem eqa_OSD (w:World) {zx0:Int} {zx1:Int} {zx2:Int} {zy0:Int} {zy1:Int} {zy2:Int}:(Op.equalIn 10000 24 (.agg #[.int .i64 zx0,.int .i64 zx1,.int .i64 zx2]) (.agg #[.int .i64 zy0,.int .i64 zy1,.int .i64 zy2])).run Try.prog w= .ok (decide (zx0=zy0∧zx1=zy1∧zx2=zy2)) w:=by
 rw[run_equalIn_agg w 9999 _ _ _ (by kernel_rfl) (by kernel_rfl)]
 have hf:(Try.prog.fieldsOf 24).toList =(match Try.prog.underlying 24 with|some (.struct fs)=>fs.toList|_=>[]):=by kernel_rfl
 rw[hf,Try.underlying24]
 have hx:(Op.eqFields 9999 #[.int .i64 zx0,.int .i64 zx1,.int .i64 zx2] #[.int .i64 zy0,.int .i64 zy1,.int .i64 zy2] (match Try.prog.underlying 24 with|some (.struct fs)=>fs.toList|_=>[])).run Try.prog w= .ok ((decide (zx0=zy0) && (decide (zx1=zy1) && (decide (zx2=zy2) && true)))) w:=by
  rw[Try.underlying24]
  exact eqf_int (by decide) Try.underlying2 rfl rfl (eqf_int (by decide) Try.underlying3 rfl rfl (eqf_int (by decide) Try.underlying3 rfl rfl (eqf_nil)))
 rw[Try.underlying24] at hx
 rw[hx]
 simp only [Bool.and_true,dec_and]
theorem es_OSD {w:World} {zx0:Int} {zx1:Int} {zx2:Int} {zy0:Int} {zy1:Int} {zy2:Int} {c:Bool} (h:decide (zx0=zy0∧zx1=zy1∧zx2=zy2)=c):(binOp .eql 24 (.agg #[.int .i64 zx0,.int .i64 zx1,.int .i64 zx2]) (.agg #[.int .i64 zy0,.int .i64 zy1,.int .i64 zy2])).run Try.prog w= .ok (.bool c) w:=by
 subst h
 rw[run_eql_struct,eqa_OSD]
 rfl
theorem ens_OSD {w:World} {zx0:Int} {zx1:Int} {zx2:Int} {zy0:Int} {zy1:Int} {zy2:Int} {c:Bool} (h:decide (zx0=zy0∧zx1=zy1∧zx2=zy2)=c):(binOp .neq 24 (.agg #[.int .i64 zx0,.int .i64 zx1,.int .i64 zx2]) (.agg #[.int .i64 zy0,.int .i64 zy1,.int .i64 zy2])).run Try.prog w= .ok (.bool (!c)) w:=by
 subst h
 rw[run_neq_struct,eqa_OSD]
 rfl
end Go.Proofs.Ytacnedknihlfnaa
