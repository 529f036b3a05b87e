import Derived.Test.YtpkhdajnppoinaaGreatKC22
namespace Go.Proofs.YtpkhdajnppoinaaGreat
open Go.RowKit
set_option maxRecDepth 100000
set_option linter.unusedVariables false
set_option maxHeartbeats 8000000
theorem sz_Plc:(Tryz.prog.info? 25).map (·.size)=some 4:=by kernel_rfl
theorem ze_Plc:(Tryz.prog.info? 25).bind (·.zero)=some (.agg #[.int .i64 0,.int .i64 0,.int .i64 0,.int .i64 0]):=by kernel_rfl
theorem ldb_Plc {w:World} {g o:Nat} {cs vs:List Value} (h:Blk w g cs) (hv:(cs.drop o).take 4=vs) (hl:vs.length=4):(Instr.loadAt 25 (.pointer (some ⟨g,o,none⟩))).run Tryz.prog w= .ok (.agg vs.toArray) w:=blk_load h hv hl Tryz.underlying25 rfl sz_Plc
theorem stb_Plc {w:World} {g o:Nat} {cs ws vs:List Value} (h:Blk w g cs) (hl:vs.length=4) (ho:Nat.ble (o+4) cs.length=true) (h1:∀v∈vs,v.oneCell'=true) (hw:cs.take o++vs++cs.drop (o+4)=ws):∃w',(∀v:Value,v.cells=vs.toArray→(Instr.storeAt 25 (.pointer (some ⟨g,o,none⟩)) v).run Tryz.prog w= .ok () w')∧Turned g w w'∧Blk w' g ws:=blk_store h sz_Plc hl ho h1 hw
theorem fa_Plc_0 {w:World} {g o p:Nat} (hp:o+0=p):(Instr.fieldAt 25 (.pointer (some ⟨g,o,none⟩)) 0).run Tryz.prog w= .ok (.pointer (some ⟨g,p,none⟩)) w:=own_field Tryz.underlying25 rfl rfl sz_i64 rfl p hp
theorem fa_Plc_1 {w:World} {g o p:Nat} (hp:o+1=p):(Instr.fieldAt 25 (.pointer (some ⟨g,o,none⟩)) 1).run Tryz.prog w= .ok (.pointer (some ⟨g,p,none⟩)) w:=own_field Tryz.underlying25 rfl rfl sz_i64 rfl p hp
theorem fa_Plc_2 {w:World} {g o p:Nat} (hp:o+2=p):(Instr.fieldAt 25 (.pointer (some ⟨g,o,none⟩)) 2).run Tryz.prog w= .ok (.pointer (some ⟨g,p,none⟩)) w:=own_field Tryz.underlying25 rfl rfl sz_i64 rfl p hp
theorem fa_Plc_3 {w:World} {g o p:Nat} (hp:o+3=p):(Instr.fieldAt 25 (.pointer (some ⟨g,o,none⟩)) 3).run Tryz.prog w= .ok (.pointer (some ⟨g,p,none⟩)) w:=own_field Tryz.underlying25 rfl rfl sz_i64 rfl p hp
theorem bd_Plc_ (w:World):(Instr.build 25 #[]).run Tryz.prog w= .ok (.agg #[.int .i64 0,.int .i64 0,.int .i64 0,.int .i64 0]) w:=by
 have hz:=zero_run ze_Plc w
 have h_i64:∀w,(sizeOf 2).run Tryz.prog w= .ok 1 w:=fun w=>size_run sz_i64 w
 simp only [Instr.build,Sem.run_bind,hz,Result.andThen_ok,run_underlying Tryz.underlying25,List.mapM_toArray,List.mapM_cons,List.mapM_nil,Sem.run_map,h_i64,Sem.run_pure]
 rfl
theorem bd_Plc_0123 (z00:Int) (z10:Int) (z20:Int) (z30:Int) (w:World):(Instr.build 25 #[(0,.int .i64 z00),(1,.int .i64 z10),(2,.int .i64 z20),(3,.int .i64 z30)]).run Tryz.prog w= .ok (.agg #[.int .i64 z00,.int .i64 z10,.int .i64 z20,.int .i64 z30]) w:=by
 have hz:=zero_run ze_Plc w
 have h_i64:∀w,(sizeOf 2).run Tryz.prog w= .ok 1 w:=fun w=>size_run sz_i64 w
 simp only [Instr.build,Sem.run_bind,hz,Result.andThen_ok,run_underlying Tryz.underlying25,List.mapM_toArray,List.mapM_cons,List.mapM_nil,Sem.run_map,h_i64,Sem.run_pure]
 rfl
theorem eg_Plc {w:World} {op:BinOp} {x y:Operand} {xs ys:Array Value}:(eqGuard op 25 x y (.agg xs) (.agg ys)).run Tryz.prog w= .ok () w:=run_eqGuard_agg w op _ x y xs ys (by kernel_rfl)
theorem es_Plc {w:World} {zx0:Int} {zx1:Int} {zx2:Int} {zx3:Int} {zy0:Int} {zy1:Int} {zy2:Int} {zy3:Int} {c:Bool} (h:decide (zx0=zy0∧zx1=zy1∧zx2=zy2∧zx3=zy3)=c):(binOp .eql 25 (.agg #[.int .i64 zx0,.int .i64 zx1,.int .i64 zx2,.int .i64 zx3]) (.agg #[.int .i64 zy0,.int .i64 zy1,.int .i64 zy2,.int .i64 zy3])).run Tryz.prog w= .ok (.bool c) w:=by
 subst h
 rw[run_eql_struct,run_equalIn_agg w 9999 _ _ _ (by kernel_rfl) (by kernel_rfl)]
 have hf:(Tryz.prog.fieldsOf 25).toList =(match Tryz.prog.underlying 25 with|some (.struct fs)=>fs.toList|_=>[]):=by kernel_rfl
 rw[hf,Tryz.underlying25]
 have hx:(Op.eqFields 9999 #[.int .i64 zx0,.int .i64 zx1,.int .i64 zx2,.int .i64 zx3] #[.int .i64 zy0,.int .i64 zy1,.int .i64 zy2,.int .i64 zy3] (match Tryz.prog.underlying 25 with|some (.struct fs)=>fs.toList|_=>[])).run Tryz.prog w= .ok ((decide (zx0=zy0) && (decide (zx1=zy1) && (decide (zx2=zy2) && (decide (zx3=zy3) && true))))) w:=by
  rw[Tryz.underlying25]
  exact eqf_int (by decide) Tryz.underlying2 rfl rfl (eqf_int (by decide) Tryz.underlying2 rfl rfl (eqf_int (by decide) Tryz.underlying2 rfl rfl (eqf_int (by decide) Tryz.underlying2 rfl rfl (eqf_nil))))
 rw[Tryz.underlying25] at hx
 rw[hx]
 simp only [Result.andThen_ok,Bool.and_true,dec_and]
theorem ty_Plc:Ty Tryz.prog 25 4 [.int .i64 0,.int .i64 0,.int .i64 0,.int .i64 0]:=⟨⟨_,Tryz.underlying25,rfl⟩,sz_Plc,ze_Plc⟩
end Go.Proofs.YtpkhdajnppoinaaGreat
