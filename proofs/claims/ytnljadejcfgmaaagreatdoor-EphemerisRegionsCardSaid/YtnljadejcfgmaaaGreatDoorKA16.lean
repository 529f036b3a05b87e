import Derived.Test.YtnljadejcfgmaaaGreatDoorKA13
namespace Go.Proofs.YtnljadejcfgmaaaGreatDoor
open Go.RowKit
set_option maxRecDepth 100000
set_option linter.unusedVariables false
set_option maxHeartbeats 8000000
theorem sz_Plc:(Tryz.prog.info? 26).map (·.size)=some 4:=by kernel_rfl
theorem ze_Plc:(Tryz.prog.info? 26).bind (·.zero)=some (.agg #[.int .i64 0,.int .i64 0,.int .i64 0,.int .i64 0]):=by kernel_rfl
theorem ldb_Plc {w:World} {g o:Nat} {cs vs:List Value} (h:Blk w g cs) (hv:(cs.drop o).take 4=vs) (hl:vs.length=4):(Instr.loadAt 26 (.pointer (some ⟨g,o,none⟩))).run Tryz.prog w= .ok (.agg vs.toArray) w:=blk_load h hv hl Tryz.underlying26 rfl sz_Plc
theorem fa_Plc_0 {w:World} {g o p:Nat} (hp:o+0=p):(Instr.fieldAt 26 (.pointer (some ⟨g,o,none⟩)) 0).run Tryz.prog w= .ok (.pointer (some ⟨g,p,none⟩)) w:=own_field Tryz.underlying26 rfl rfl sz_i64 rfl p hp
theorem fa_Plc_1 {w:World} {g o p:Nat} (hp:o+1=p):(Instr.fieldAt 26 (.pointer (some ⟨g,o,none⟩)) 1).run Tryz.prog w= .ok (.pointer (some ⟨g,p,none⟩)) w:=own_field Tryz.underlying26 rfl rfl sz_i64 rfl p hp
theorem fa_Plc_2 {w:World} {g o p:Nat} (hp:o+2=p):(Instr.fieldAt 26 (.pointer (some ⟨g,o,none⟩)) 2).run Tryz.prog w= .ok (.pointer (some ⟨g,p,none⟩)) w:=own_field Tryz.underlying26 rfl rfl sz_i64 rfl p hp
theorem fa_Plc_3 {w:World} {g o p:Nat} (hp:o+3=p):(Instr.fieldAt 26 (.pointer (some ⟨g,o,none⟩)) 3).run Tryz.prog w= .ok (.pointer (some ⟨g,p,none⟩)) w:=own_field Tryz.underlying26 rfl rfl sz_i64 rfl p hp
theorem bd_Plc_ (w:World):(Instr.build 26 #[]).run Tryz.prog w= .ok (.agg #[.int .i64 0,.int .i64 0,.int .i64 0,.int .i64 0]) w:=by
 have hz:=zero_run ze_Plc w
 have h_i64:∀w,(sizeOf 2).run Tryz.prog w= .ok 1 w:=fun w=>size_run sz_i64 w
 simp only [Instr.build,Sem.run_bind,hz,Result.andThen_ok,run_underlying Tryz.underlying26,List.mapM_toArray,List.mapM_cons,List.mapM_nil,Sem.run_map,h_i64,Sem.run_pure]
 rfl
theorem bd_Plc_0123 (z00:Int) (z10:Int) (z20:Int) (z30:Int) (w:World):(Instr.build 26 #[(0,.int .i64 z00),(1,.int .i64 z10),(2,.int .i64 z20),(3,.int .i64 z30)]).run Tryz.prog w= .ok (.agg #[.int .i64 z00,.int .i64 z10,.int .i64 z20,.int .i64 z30]) w:=by
 have hz:=zero_run ze_Plc w
 have h_i64:∀w,(sizeOf 2).run Tryz.prog w= .ok 1 w:=fun w=>size_run sz_i64 w
 simp only [Instr.build,Sem.run_bind,hz,Result.andThen_ok,run_underlying Tryz.underlying26,List.mapM_toArray,List.mapM_cons,List.mapM_nil,Sem.run_map,h_i64,Sem.run_pure]
 rfl
theorem ty_Plc:Ty Tryz.prog 26 4 [.int .i64 0,.int .i64 0,.int .i64 0,.int .i64 0]:=⟨⟨_,Tryz.underlying26,rfl⟩,sz_Plc,ze_Plc⟩
end Go.Proofs.YtnljadejcfgmaaaGreatDoor
