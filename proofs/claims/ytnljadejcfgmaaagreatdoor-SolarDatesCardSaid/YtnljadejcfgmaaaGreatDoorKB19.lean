import Derived.Test.YtnljadejcfgmaaaGreatDoorKB14
import Derived.Laws.StructEq
namespace Go.Proofs.YtnljadejcfgmaaaGreatDoor
open Go.RowKit
set_option maxRecDepth 100000
set_option linter.unusedVariables false
set_option maxHeartbeats 8000000
theorem GC:(Tryz.prog.info? 51).map (·.size)=some 3:=by kernel_rfl
theorem tl:(Tryz.prog.info? 51).bind (·.zero)=some (.agg #[.int .i64 0,.int .i64 0,.int .i64 0]):=by kernel_rfl
theorem eQ {w:World} {g o p:Nat} (hp:o+0=p):(Instr.fieldAt 51 (.pointer (some ⟨g,o,none⟩)) 0).run Tryz.prog w= .ok (.pointer (some ⟨g,p,none⟩)) w:=bz Tryz.underlying51 rfl rfl dU rfl p hp
theorem dz {w:World} {g o p:Nat} (hp:o+1=p):(Instr.fieldAt 51 (.pointer (some ⟨g,o,none⟩)) 1).run Tryz.prog w= .ok (.pointer (some ⟨g,p,none⟩)) w:=bz Tryz.underlying51 rfl rfl hC rfl p hp
theorem di {w:World} {g o p:Nat} (hp:o+2=p):(Instr.fieldAt 51 (.pointer (some ⟨g,o,none⟩)) 2).run Tryz.prog w= .ok (.pointer (some ⟨g,p,none⟩)) w:=bz Tryz.underlying51 rfl rfl hC rfl p hp
theorem vD (w:World):(Instr.build 51 #[]).run Tryz.prog w= .ok (.agg #[.int .i64 0,.int .i64 0,.int .i64 0]) w:=by
 have hz:=cH tl w
 have h_int:∀w,(sizeOf 3).run Tryz.prog w= .ok 1 w:=fun w=>bB hC w
 have h_i64:∀w,(sizeOf 2).run Tryz.prog w= .ok 1 w:=fun w=>bB dU w
 simp only [Instr.build,Sem.run_bind,hz,Result.andThen_ok,run_underlying Tryz.underlying51,List.mapM_toArray,List.mapM_cons,List.mapM_nil,Sem.run_map,h_i64,h_int,Sem.run_pure]
 rfl
theorem wX (z00:Int) (z10:Int) (z20:Int) (w:World):(Instr.build 51 #[(0,.int .i64 z00),(1,.int .i64 z10),(2,.int .i64 z20)]).run Tryz.prog w= .ok (.agg #[.int .i64 z00,.int .i64 z10,.int .i64 z20]) w:=by
 have hz:=cH tl w
 have h_int:∀w,(sizeOf 3).run Tryz.prog w= .ok 1 w:=fun w=>bB hC w
 have h_i64:∀w,(sizeOf 2).run Tryz.prog w= .ok 1 w:=fun w=>bB dU w
 simp only [Instr.build,Sem.run_bind,hz,Result.andThen_ok,run_underlying Tryz.underlying51,List.mapM_toArray,List.mapM_cons,List.mapM_nil,Sem.run_map,h_i64,h_int,Sem.run_pure]
 rfl
theorem FZ:(Tryz.prog.info? 58).map (·.size)=some 3:=by kernel_rfl
theorem z8:(Tryz.prog.info? 58).bind (·.zero)=some (.agg #[.int .i64 0,.int .i64 0,.int .i64 0]):=by kernel_rfl
theorem Bo {w:World} {g o p:Nat} (hp:o+0=p):(Instr.fieldAt 58 (.pointer (some ⟨g,o,none⟩)) 0).run Tryz.prog w= .ok (.pointer (some ⟨g,p,none⟩)) w:=bz Tryz.underlying58 rfl rfl hC rfl p hp
theorem Ai {w:World} {g o p:Nat} (hp:o+1=p):(Instr.fieldAt 58 (.pointer (some ⟨g,o,none⟩)) 1).run Tryz.prog w= .ok (.pointer (some ⟨g,p,none⟩)) w:=bz Tryz.underlying58 rfl rfl hC rfl p hp
theorem A7 {w:World} {g o p:Nat} (hp:o+2=p):(Instr.fieldAt 58 (.pointer (some ⟨g,o,none⟩)) 2).run Tryz.prog w= .ok (.pointer (some ⟨g,p,none⟩)) w:=bz Tryz.underlying58 rfl rfl hC rfl p hp
theorem pG (z00:Int) (z10:Int) (z20:Int) (w:World):(Instr.build 58 #[(0,.int .i64 z00),(1,.int .i64 z10),(2,.int .i64 z20)]).run Tryz.prog w= .ok (.agg #[.int .i64 z00,.int .i64 z10,.int .i64 z20]) w:=by
 have hz:=cH z8 w
 have h_int:∀w,(sizeOf 3).run Tryz.prog w= .ok 1 w:=fun w=>bB hC w
 simp only [Instr.build,Sem.run_bind,hz,Result.andThen_ok,run_underlying Tryz.underlying58,List.mapM_toArray,List.mapM_cons,List.mapM_nil,Sem.run_map,h_int,Sem.run_pure]
 rfl
theorem Gj:(Tryz.prog.info? 23).map (·.size)=some 4:=by kernel_rfl
theorem E8:(Tryz.prog.info? 23).bind (·.zero)=some (.agg #[.int .i64 0,.int .i64 0,.int .i64 0,.int .i64 0]):=by kernel_rfl
theorem Ax {w:World} {g o p:Nat} (hp:o+0=p):(Instr.fieldAt 23 (.pointer (some ⟨g,o,none⟩)) 0).run Tryz.prog w= .ok (.pointer (some ⟨g,p,none⟩)) w:=bz Tryz.underlying23 rfl rfl dU rfl p hp
theorem Ca {w:World} {g o p:Nat} (hp:o+1=p):(Instr.fieldAt 23 (.pointer (some ⟨g,o,none⟩)) 1).run Tryz.prog w= .ok (.pointer (some ⟨g,p,none⟩)) w:=bz Tryz.underlying23 rfl rfl dU rfl p hp
theorem Be {w:World} {g o p:Nat} (hp:o+2=p):(Instr.fieldAt 23 (.pointer (some ⟨g,o,none⟩)) 2).run Tryz.prog w= .ok (.pointer (some ⟨g,p,none⟩)) w:=bz Tryz.underlying23 rfl rfl dU rfl p hp
theorem Bh {w:World} {g o p:Nat} (hp:o+3=p):(Instr.fieldAt 23 (.pointer (some ⟨g,o,none⟩)) 3).run Tryz.prog w= .ok (.pointer (some ⟨g,p,none⟩)) w:=bz Tryz.underlying23 rfl rfl dU rfl p hp
theorem cL:Ty Tryz.prog 51 3 [.int .i64 0,.int .i64 0,.int .i64 0]:=⟨⟨_,Tryz.underlying51,rfl⟩,GC,tl⟩
theorem yj {w:World} {op:BinOp} {x y:Operand} {xs ys:Array Value}:(eqGuard op 51 x y (.agg xs) (.agg ys)).run Tryz.prog w= .ok () w:=run_eqGuard_agg w op _ x y xs ys (by kernel_rfl)
theorem D7 (w:World) {zx0:Int} {zx1:Int} {zx2:Int} {zy0:Int} {zy1:Int} {zy2:Int}:(Op.equalIn 10000 51 (.agg #[.int .i64 zx0,.int .i64 zx1,.int .i64 zx2]) (.agg #[.int .i64 zy0,.int .i64 zy1,.int .i64 zy2])).run Tryz.prog w= .ok (decide (zx0=zy0∧zx1=zy1∧zx2=zy2)) w:=by
 rw[run_equalIn_agg w 9999 _ _ _ (by kernel_rfl) (by kernel_rfl)]
 have hf:(Tryz.prog.fieldsOf 51).toList =(match Tryz.prog.underlying 51 with|some (.struct fs)=>fs.toList|_=>[]):=by kernel_rfl
 rw[hf,Tryz.underlying51]
 have hx:(Op.eqFields 9999 #[.int .i64 zx0,.int .i64 zx1,.int .i64 zx2] #[.int .i64 zy0,.int .i64 zy1,.int .i64 zy2] (match Tryz.prog.underlying 51 with|some (.struct fs)=>fs.toList|_=>[])).run Tryz.prog w= .ok ((decide (zx0=zy0) && (decide (zx1=zy1) && (decide (zx2=zy2) && true)))) w:=by
  rw[Tryz.underlying51]
  exact jK (by decide) Tryz.underlying2 rfl rfl (jK (by decide) Tryz.underlying3 rfl rfl (jK (by decide) Tryz.underlying3 rfl rfl (uQ)))
 rw[Tryz.underlying51] at hx
 rw[hx]
 simp only [Bool.and_true,uM]
theorem vH {w:World} {zx0:Int} {zx1:Int} {zx2:Int} {zy0:Int} {zy1:Int} {zy2:Int} {c:Bool} (h:decide (zx0=zy0∧zx1=zy1∧zx2=zy2)=c):(binOp .neq 51 (.agg #[.int .i64 zx0,.int .i64 zx1,.int .i64 zx2]) (.agg #[.int .i64 zy0,.int .i64 zy1,.int .i64 zy2])).run Tryz.prog w= .ok (.bool (!c)) w:=by
 subst h
 rw[run_neq_struct,D7]
 rfl
theorem jP:Ty Tryz.prog 58 3 [.int .i64 0,.int .i64 0,.int .i64 0]:=⟨⟨_,Tryz.underlying58,rfl⟩,FZ,z8⟩
theorem te {w:World} {op:BinOp} {x y:Operand} {xs ys:Array Value}:(eqGuard op 58 x y (.agg xs) (.agg ys)).run Tryz.prog w= .ok () w:=run_eqGuard_agg w op _ x y xs ys (by kernel_rfl)
theorem vL (w:World) {zx0:Int} {zx1:Int} {zx2:Int} {zy0:Int} {zy1:Int} {zy2:Int}:(Op.equalIn 10000 58 (.agg #[.int .i64 zx0,.int .i64 zx1,.int .i64 zx2]) (.agg #[.int .i64 zy0,.int .i64 zy1,.int .i64 zy2])).run Tryz.prog w= .ok (decide (zx0=zy0∧zx1=zy1∧zx2=zy2)) w:=by
 rw[run_equalIn_agg w 9999 _ _ _ (by kernel_rfl) (by kernel_rfl)]
 have hf:(Tryz.prog.fieldsOf 58).toList =(match Tryz.prog.underlying 58 with|some (.struct fs)=>fs.toList|_=>[]):=by kernel_rfl
 rw[hf,Tryz.underlying58]
 have hx:(Op.eqFields 9999 #[.int .i64 zx0,.int .i64 zx1,.int .i64 zx2] #[.int .i64 zy0,.int .i64 zy1,.int .i64 zy2] (match Tryz.prog.underlying 58 with|some (.struct fs)=>fs.toList|_=>[])).run Tryz.prog w= .ok ((decide (zx0=zy0) && (decide (zx1=zy1) && (decide (zx2=zy2) && true)))) w:=by
  rw[Tryz.underlying58]
  exact jK (by decide) Tryz.underlying3 rfl rfl (jK (by decide) Tryz.underlying3 rfl rfl (jK (by decide) Tryz.underlying3 rfl rfl (uQ)))
 rw[Tryz.underlying58] at hx
 rw[hx]
 simp only [Bool.and_true,uM]
theorem EX {w:World} {zx0:Int} {zx1:Int} {zx2:Int} {zy0:Int} {zy1:Int} {zy2:Int} {c:Bool} (h:decide (zx0=zy0∧zx1=zy1∧zx2=zy2)=c):(binOp .eql 58 (.agg #[.int .i64 zx0,.int .i64 zx1,.int .i64 zx2]) (.agg #[.int .i64 zy0,.int .i64 zy1,.int .i64 zy2])).run Tryz.prog w= .ok (.bool c) w:=by
 subst h
 rw[run_eql_struct,vL]
 rfl
theorem vk {w:World} {zx0:Int} {zx1:Int} {zx2:Int} {zy0:Int} {zy1:Int} {zy2:Int} {c:Bool} (h:decide (zx0=zy0∧zx1=zy1∧zx2=zy2)=c):(binOp .neq 58 (.agg #[.int .i64 zx0,.int .i64 zx1,.int .i64 zx2]) (.agg #[.int .i64 zy0,.int .i64 zy1,.int .i64 zy2])).run Tryz.prog w= .ok (.bool (!c)) w:=by
 subst h
 rw[run_neq_struct,vL]
 rfl
theorem lk:Ty Tryz.prog 23 4 [.int .i64 0,.int .i64 0,.int .i64 0,.int .i64 0]:=⟨⟨_,Tryz.underlying23,rfl⟩,Gj,E8⟩
end Go.Proofs.YtnljadejcfgmaaaGreatDoor
