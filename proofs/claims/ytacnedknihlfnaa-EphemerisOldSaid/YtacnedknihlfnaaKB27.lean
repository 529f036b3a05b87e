import Derived.Test.YtacnedknihlfnaaKB21
import Derived.Laws.StructEq
namespace Go.Proofs.Ytacnedknihlfnaa
open Go.RowKit
set_option maxRecDepth 100000
set_option linter.unusedVariables false
set_option maxHeartbeats 8000000
theorem sz_OSD:(Try.prog.info? 24).map (·.size)=some 3:=by kernel_rfl
theorem ze_OSD:(Try.prog.info? 24).bind (·.zero)=some (.agg #[.int .i64 0,.int .i64 0,.int .i64 0]):=by kernel_rfl
theorem fa_OSD_0 {w:World} {g o p:Nat} (hp:o+0=p):(Instr.fieldAt 24 (.pointer (some ⟨g,o,none⟩)) 0).run Try.prog w= .ok (.pointer (some ⟨g,p,none⟩)) w:=own_field Try.underlying24 rfl rfl sz_i64 rfl p hp
theorem fa_OSD_1 {w:World} {g o p:Nat} (hp:o+1=p):(Instr.fieldAt 24 (.pointer (some ⟨g,o,none⟩)) 1).run Try.prog w= .ok (.pointer (some ⟨g,p,none⟩)) w:=own_field Try.underlying24 rfl rfl sz_int rfl p hp
theorem bd_OSD_ (w:World):(Instr.build 24 #[]).run Try.prog w= .ok (.agg #[.int .i64 0,.int .i64 0,.int .i64 0]) w:=by
 have hz:=zero_run ze_OSD w
 have h_int:∀w,(sizeOf 3).run Try.prog w= .ok 1 w:=fun w=>size_run sz_int w
 have h_i64:∀w,(sizeOf 2).run Try.prog w= .ok 1 w:=fun w=>size_run sz_i64 w
 simp only [Instr.build,Sem.run_bind,hz,Result.andThen_ok,run_underlying Try.underlying24,List.mapM_toArray,List.mapM_cons,List.mapM_nil,Sem.run_map,h_i64,h_int,Sem.run_pure]
 rfl
theorem bd_OSD_012 (z00:Int) (z10:Int) (z20:Int) (w:World):(Instr.build 24 #[(0,.int .i64 z00),(1,.int .i64 z10),(2,.int .i64 z20)]).run Try.prog w= .ok (.agg #[.int .i64 z00,.int .i64 z10,.int .i64 z20]) w:=by
 have hz:=zero_run ze_OSD w
 have h_int:∀w,(sizeOf 3).run Try.prog w= .ok 1 w:=fun w=>size_run sz_int w
 have h_i64:∀w,(sizeOf 2).run Try.prog w= .ok 1 w:=fun w=>size_run sz_i64 w
 simp only [Instr.build,Sem.run_bind,hz,Result.andThen_ok,run_underlying Try.underlying24,List.mapM_toArray,List.mapM_cons,List.mapM_nil,Sem.run_map,h_i64,h_int,Sem.run_pure]
 rfl
theorem sz_OMD:(Try.prog.info? 48).map (·.size)=some 4:=by kernel_rfl
theorem ze_OMD:(Try.prog.info? 48).bind (·.zero)=some (.agg #[.int .i64 0,.int .i64 0,.bool false,.int .i64 0]):=by kernel_rfl
theorem fa_OMD_0 {w:World} {g o p:Nat} (hp:o+0=p):(Instr.fieldAt 48 (.pointer (some ⟨g,o,none⟩)) 0).run Try.prog w= .ok (.pointer (some ⟨g,p,none⟩)) w:=own_field Try.underlying48 rfl rfl sz_i64 rfl p hp
theorem fa_OMD_1 {w:World} {g o p:Nat} (hp:o+1=p):(Instr.fieldAt 48 (.pointer (some ⟨g,o,none⟩)) 1).run Try.prog w= .ok (.pointer (some ⟨g,p,none⟩)) w:=own_field Try.underlying48 rfl rfl sz_int rfl p hp
theorem fa_OMD_2 {w:World} {g o p:Nat} (hp:o+2=p):(Instr.fieldAt 48 (.pointer (some ⟨g,o,none⟩)) 2).run Try.prog w= .ok (.pointer (some ⟨g,p,none⟩)) w:=own_field Try.underlying48 rfl rfl sz_bool rfl p hp
theorem fa_OMD_3 {w:World} {g o p:Nat} (hp:o+3=p):(Instr.fieldAt 48 (.pointer (some ⟨g,o,none⟩)) 3).run Try.prog w= .ok (.pointer (some ⟨g,p,none⟩)) w:=own_field Try.underlying48 rfl rfl sz_int rfl p hp
theorem bd_OMD_ (w:World):(Instr.build 48 #[]).run Try.prog w= .ok (.agg #[.int .i64 0,.int .i64 0,.bool false,.int .i64 0]) w:=by
 have hz:=zero_run ze_OMD w
 have h_bool:∀w,(sizeOf 4).run Try.prog w= .ok 1 w:=fun w=>size_run sz_bool w
 have h_int:∀w,(sizeOf 3).run Try.prog w= .ok 1 w:=fun w=>size_run sz_int w
 have h_i64:∀w,(sizeOf 2).run Try.prog w= .ok 1 w:=fun w=>size_run sz_i64 w
 simp only [Instr.build,Sem.run_bind,hz,Result.andThen_ok,run_underlying Try.underlying48,List.mapM_toArray,List.mapM_cons,List.mapM_nil,Sem.run_map,h_bool,h_i64,h_int,Sem.run_pure]
 rfl
theorem bd_OMD_0123 (z00:Int) (z10:Int) (b20:Bool) (z30:Int) (w:World):(Instr.build 48 #[(0,.int .i64 z00),(1,.int .i64 z10),(2,.bool b20),(3,.int .i64 z30)]).run Try.prog w= .ok (.agg #[.int .i64 z00,.int .i64 z10,.bool b20,.int .i64 z30]) w:=by
 have hz:=zero_run ze_OMD w
 have h_bool:∀w,(sizeOf 4).run Try.prog w= .ok 1 w:=fun w=>size_run sz_bool w
 have h_int:∀w,(sizeOf 3).run Try.prog w= .ok 1 w:=fun w=>size_run sz_int w
 have h_i64:∀w,(sizeOf 2).run Try.prog w= .ok 1 w:=fun w=>size_run sz_i64 w
 simp only [Instr.build,Sem.run_bind,hz,Result.andThen_ok,run_underlying Try.underlying48,List.mapM_toArray,List.mapM_cons,List.mapM_nil,Sem.run_map,h_bool,h_i64,h_int,Sem.run_pure]
 rfl
theorem bd_OMD_13 (z10:Int) (z30:Int) (w:World):(Instr.build 48 #[(1,.int .i64 z10),(3,.int .i64 z30)]).run Try.prog w= .ok (.agg #[.int .i64 0,.int .i64 z10,.bool false,.int .i64 z30]) w:=by
 have hz:=zero_run ze_OMD w
 have h_bool:∀w,(sizeOf 4).run Try.prog w= .ok 1 w:=fun w=>size_run sz_bool w
 have h_int:∀w,(sizeOf 3).run Try.prog w= .ok 1 w:=fun w=>size_run sz_int w
 have h_i64:∀w,(sizeOf 2).run Try.prog w= .ok 1 w:=fun w=>size_run sz_i64 w
 simp only [Instr.build,Sem.run_bind,hz,Result.andThen_ok,run_underlying Try.underlying48,List.mapM_toArray,List.mapM_cons,List.mapM_nil,Sem.run_map,h_bool,h_i64,h_int,Sem.run_pure]
 rfl
theorem sz_RMD:(Try.prog.info? 53).map (·.size)=some 4:=by kernel_rfl
theorem ze_RMD:(Try.prog.info? 53).bind (·.zero)=some (.agg #[.int .i64 0,.int .i64 0,.bool false,.int .i64 0]):=by kernel_rfl
theorem fa_RMD_0 {w:World} {g o p:Nat} (hp:o+0=p):(Instr.fieldAt 53 (.pointer (some ⟨g,o,none⟩)) 0).run Try.prog w= .ok (.pointer (some ⟨g,p,none⟩)) w:=own_field Try.underlying53 rfl rfl sz_int rfl p hp
theorem fa_RMD_1 {w:World} {g o p:Nat} (hp:o+1=p):(Instr.fieldAt 53 (.pointer (some ⟨g,o,none⟩)) 1).run Try.prog w= .ok (.pointer (some ⟨g,p,none⟩)) w:=own_field Try.underlying53 rfl rfl sz_int rfl p hp
theorem fa_RMD_2 {w:World} {g o p:Nat} (hp:o+2=p):(Instr.fieldAt 53 (.pointer (some ⟨g,o,none⟩)) 2).run Try.prog w= .ok (.pointer (some ⟨g,p,none⟩)) w:=own_field Try.underlying53 rfl rfl sz_bool rfl p hp
theorem fa_RMD_3 {w:World} {g o p:Nat} (hp:o+3=p):(Instr.fieldAt 53 (.pointer (some ⟨g,o,none⟩)) 3).run Try.prog w= .ok (.pointer (some ⟨g,p,none⟩)) w:=own_field Try.underlying53 rfl rfl sz_int rfl p hp
theorem bd_RMD_0123 (z00:Int) (z10:Int) (b20:Bool) (z30:Int) (w:World):(Instr.build 53 #[(0,.int .i64 z00),(1,.int .i64 z10),(2,.bool b20),(3,.int .i64 z30)]).run Try.prog w= .ok (.agg #[.int .i64 z00,.int .i64 z10,.bool b20,.int .i64 z30]) w:=by
 have hz:=zero_run ze_RMD w
 have h_bool:∀w,(sizeOf 4).run Try.prog w= .ok 1 w:=fun w=>size_run sz_bool w
 have h_int:∀w,(sizeOf 3).run Try.prog w= .ok 1 w:=fun w=>size_run sz_int w
 simp only [Instr.build,Sem.run_bind,hz,Result.andThen_ok,run_underlying Try.underlying53,List.mapM_toArray,List.mapM_cons,List.mapM_nil,Sem.run_map,h_bool,h_int,Sem.run_pure]
 rfl
theorem pair4o {a:Act} {i j k l:Nat} {x y z u:Operand} {p q r s:Value} (h:a.eval x=p) (h2:a.eval y=q) (h3:a.eval z=r) (h4:a.eval u=s):(#[(i,x),(j,y),(k,z),(l,u)].map fun(p:Nat×Operand)=>(p.1,a.eval p.2))=#[(i,p),(j,q),(k,r),(l,s)]:=by simp[h,h2,h3,h4]
theorem eqf_bool {P:Program} {w:World} {d:Nat} {xs ys:Array Value} {f:Field} {fs:List Field} {s:Bool} {a b:Bool} (hn:(f.name != "_")=true) (hu:P.underlying f.type=some .bool) (h1:xs[f.offset]?=some (.bool a)) (h2:ys[f.offset]?=some (.bool b))
 (hr:(Op.eqFields (d+1) xs ys fs).run P w= .ok s w):(Op.eqFields (d+1) xs ys (f::fs)).run P w= .ok (decide (a=b) && s) w:=by
 have hn':f.name≠ "_":=by simpa using hn
 simp only [Op.eqFields,Sem.run_bind,Sem.run_ite,if_pos hn',part_run hu rfl h1,part_run hu rfl h2,Result.andThen_ok,run_equalIn_bool w d f.type a b hu]
 by_cases e:a=b
 ·subst e;simp[hr]
 ·simp[e]
theorem ldb_bool {w:World} {g o:Nat} {cs:List Value} {v:Value} (h:Blk w g cs) (hv:cs[o]?=some v):(Instr.loadAt 4 (.pointer (some ⟨g,o,none⟩))).run Try.prog w= .ok v w:=blk_load1 h hv Try.underlying4 rfl
theorem ty_OSD:Ty Try.prog 24 3 [.int .i64 0,.int .i64 0,.int .i64 0]:=⟨⟨_,Try.underlying24,rfl⟩,sz_OSD,ze_OSD⟩
theorem eqa_OSD (w:World) {zx0:Int} {zx1:Int} {zx2:Int} {zy0:Int} {zy1:Int} {zy2:Int}:(Op.equalIn 10000 24 (.agg #[.int .i64 zx0,.int .i64 zx1,.int .i64 zx2]) (.agg #[.int .i64 zy0,.int .i64 zy1,.int .i64 zy2])).run Try.prog w= .ok (decide (zx0=zy0∧zx1=zy1∧zx2=zy2)) w:=by
 rw[run_equalIn_agg w 9999 _ _ _ (by kernel_rfl) (by kernel_rfl)]
 have hf:(Try.prog.fieldsOf 24).toList =(match Try.prog.underlying 24 with|some (.struct fs)=>fs.toList|_=>[]):=by kernel_rfl
 rw[hf,Try.underlying24]
 have hx:(Op.eqFields 9999 #[.int .i64 zx0,.int .i64 zx1,.int .i64 zx2] #[.int .i64 zy0,.int .i64 zy1,.int .i64 zy2] (match Try.prog.underlying 24 with|some (.struct fs)=>fs.toList|_=>[])).run Try.prog w= .ok ((decide (zx0=zy0) && (decide (zx1=zy1) && (decide (zx2=zy2) && true)))) w:=by
  rw[Try.underlying24]
  exact eqf_int (by decide) Try.underlying2 rfl rfl (eqf_int (by decide) Try.underlying3 rfl rfl (eqf_int (by decide) Try.underlying3 rfl rfl (eqf_nil)))
 rw[Try.underlying24] at hx
 rw[hx]
 simp only [Bool.and_true,dec_and]
theorem ty_OMD:Ty Try.prog 48 4 [.int .i64 0,.int .i64 0,.bool false,.int .i64 0]:=⟨⟨_,Try.underlying48,rfl⟩,sz_OMD,ze_OMD⟩
theorem eg_OMD {w:World} {op:BinOp} {x y:Operand} {xs ys:Array Value}:(eqGuard op 48 x y (.agg xs) (.agg ys)).run Try.prog w= .ok () w:=run_eqGuard_agg w op _ x y xs ys (by kernel_rfl)
theorem eqa_OMD (w:World) {zx0:Int} {zx1:Int} {bx2:Bool} {zx3:Int} {zy0:Int} {zy1:Int} {by2:Bool} {zy3:Int}:(Op.equalIn 10000 48 (.agg #[.int .i64 zx0,.int .i64 zx1,.bool bx2,.int .i64 zx3]) (.agg #[.int .i64 zy0,.int .i64 zy1,.bool by2,.int .i64 zy3])).run Try.prog w= .ok (decide (zx0=zy0∧zx1=zy1∧bx2=by2∧zx3=zy3)) w:=by
 rw[run_equalIn_agg w 9999 _ _ _ (by kernel_rfl) (by kernel_rfl)]
 have hf:(Try.prog.fieldsOf 48).toList =(match Try.prog.underlying 48 with|some (.struct fs)=>fs.toList|_=>[]):=by kernel_rfl
 rw[hf,Try.underlying48]
 have hx:(Op.eqFields 9999 #[.int .i64 zx0,.int .i64 zx1,.bool bx2,.int .i64 zx3] #[.int .i64 zy0,.int .i64 zy1,.bool by2,.int .i64 zy3] (match Try.prog.underlying 48 with|some (.struct fs)=>fs.toList|_=>[])).run Try.prog w= .ok ((decide (zx0=zy0) && (decide (zx1=zy1) && (decide (bx2=by2) && (decide (zx3=zy3) && true))))) w:=by
  rw[Try.underlying48]
  exact eqf_int (by decide) Try.underlying2 rfl rfl (eqf_int (by decide) Try.underlying3 rfl rfl (eqf_bool (by decide) Try.underlying4 rfl rfl (eqf_int (by decide) Try.underlying3 rfl rfl (eqf_nil))))
 rw[Try.underlying48] at hx
 rw[hx]
 simp only [Bool.and_true,dec_and]
theorem es_OMD {w:World} {zx0:Int} {zx1:Int} {bx2:Bool} {zx3:Int} {zy0:Int} {zy1:Int} {by2:Bool} {zy3:Int} {c:Bool} (h:decide (zx0=zy0∧zx1=zy1∧bx2=by2∧zx3=zy3)=c):(binOp .eql 48 (.agg #[.int .i64 zx0,.int .i64 zx1,.bool bx2,.int .i64 zx3]) (.agg #[.int .i64 zy0,.int .i64 zy1,.bool by2,.int .i64 zy3])).run Try.prog w= .ok (.bool c) w:=by
 subst h
 rw[run_eql_struct,eqa_OMD]
 rfl
theorem ens_OMD {w:World} {zx0:Int} {zx1:Int} {bx2:Bool} {zx3:Int} {zy0:Int} {zy1:Int} {by2:Bool} {zy3:Int} {c:Bool} (h:decide (zx0=zy0∧zx1=zy1∧bx2=by2∧zx3=zy3)=c):(binOp .neq 48 (.agg #[.int .i64 zx0,.int .i64 zx1,.bool bx2,.int .i64 zx3]) (.agg #[.int .i64 zy0,.int .i64 zy1,.bool by2,.int .i64 zy3])).run Try.prog w= .ok (.bool (!c)) w:=by
 subst h
 rw[run_neq_struct,eqa_OMD]
 rfl
theorem ty_RMD:Ty Try.prog 53 4 [.int .i64 0,.int .i64 0,.bool false,.int .i64 0]:=⟨⟨_,Try.underlying53,rfl⟩,sz_RMD,ze_RMD⟩
theorem eg_RMD {w:World} {op:BinOp} {x y:Operand} {xs ys:Array Value}:(eqGuard op 53 x y (.agg xs) (.agg ys)).run Try.prog w= .ok () w:=run_eqGuard_agg w op _ x y xs ys (by kernel_rfl)
theorem eqa_RMD (w:World) {zx0:Int} {zx1:Int} {bx2:Bool} {zx3:Int} {zy0:Int} {zy1:Int} {by2:Bool} {zy3:Int}:(Op.equalIn 10000 53 (.agg #[.int .i64 zx0,.int .i64 zx1,.bool bx2,.int .i64 zx3]) (.agg #[.int .i64 zy0,.int .i64 zy1,.bool by2,.int .i64 zy3])).run Try.prog w= .ok (decide (zx0=zy0∧zx1=zy1∧bx2=by2∧zx3=zy3)) w:=by
 rw[run_equalIn_agg w 9999 _ _ _ (by kernel_rfl) (by kernel_rfl)]
 have hf:(Try.prog.fieldsOf 53).toList =(match Try.prog.underlying 53 with|some (.struct fs)=>fs.toList|_=>[]):=by kernel_rfl
 rw[hf,Try.underlying53]
 have hx:(Op.eqFields 9999 #[.int .i64 zx0,.int .i64 zx1,.bool bx2,.int .i64 zx3] #[.int .i64 zy0,.int .i64 zy1,.bool by2,.int .i64 zy3] (match Try.prog.underlying 53 with|some (.struct fs)=>fs.toList|_=>[])).run Try.prog w= .ok ((decide (zx0=zy0) && (decide (zx1=zy1) && (decide (bx2=by2) && (decide (zx3=zy3) && true))))) w:=by
  rw[Try.underlying53]
  exact eqf_int (by decide) Try.underlying3 rfl rfl (eqf_int (by decide) Try.underlying3 rfl rfl (eqf_bool (by decide) Try.underlying4 rfl rfl (eqf_int (by decide) Try.underlying3 rfl rfl (eqf_nil))))
 rw[Try.underlying53] at hx
 rw[hx]
 simp only [Bool.and_true,dec_and]
theorem es_RMD {w:World} {zx0:Int} {zx1:Int} {bx2:Bool} {zx3:Int} {zy0:Int} {zy1:Int} {by2:Bool} {zy3:Int} {c:Bool} (h:decide (zx0=zy0∧zx1=zy1∧bx2=by2∧zx3=zy3)=c):(binOp .eql 53 (.agg #[.int .i64 zx0,.int .i64 zx1,.bool bx2,.int .i64 zx3]) (.agg #[.int .i64 zy0,.int .i64 zy1,.bool by2,.int .i64 zy3])).run Try.prog w= .ok (.bool c) w:=by
 subst h
 rw[run_eql_struct,eqa_RMD]
 rfl
theorem ens_RMD {w:World} {zx0:Int} {zx1:Int} {bx2:Bool} {zx3:Int} {zy0:Int} {zy1:Int} {by2:Bool} {zy3:Int} {c:Bool} (h:decide (zx0=zy0∧zx1=zy1∧bx2=by2∧zx3=zy3)=c):(binOp .neq 53 (.agg #[.int .i64 zx0,.int .i64 zx1,.bool bx2,.int .i64 zx3]) (.agg #[.int .i64 zy0,.int .i64 zy1,.bool by2,.int .i64 zy3])).run Try.prog w= .ok (.bool (!c)) w:=by
 subst h
 rw[run_neq_struct,eqa_RMD]
 rfl
end Go.Proofs.Ytacnedknihlfnaa
