import Derived.Test.YtgdpkknapcgcbaaGreatDoorKD14
import Derived.Laws.StructEq
namespace Go.Proofs.YtgdpkknapcgcbaaGreatDoor
open Go.RowKit
set_option maxRecDepth 100000
set_option linter.unusedVariables false
set_option maxHeartbeats 8000000
theorem Fi:(Tryz.prog.info? 89).map (·.size)=some 3:=by kernel_rfl
theorem yd:(Tryz.prog.info? 89).bind (·.zero)=some (.agg #[iv 0,iv 0,iv 0]):=by kernel_rfl
theorem kT (z00:Int) (z10:Int) (z20:Int) (w:World):(Instr.build 89 #[(0,iv z00),(1,iv z10),(2,iv z20)]).run Tryz.prog w= .ok (.agg #[iv z00,iv z10,iv z20]) w:=by
 have hz:=cW yd w
 have h_int:∀w,(sizeOf 3).run Tryz.prog w= .ok 1 w:=fun w=>a8 fb w
 have h_i64:∀w,(sizeOf 2).run Tryz.prog w= .ok 1 w:=fun w=>a8 cD w
 simp only [Instr.build,Sem.run_bind,hz,Result.andThen_ok,run_underlying Tryz.underlying89,List.mapM_toArray,List.mapM_cons,List.mapM_nil,Sem.run_map,h_i64,h_int,Sem.run_pure]
 rfl
theorem GK:(Tryz.prog.info? 23).map (·.size)=some 4:=by kernel_rfl
theorem Fn:(Tryz.prog.info? 23).bind (·.zero)=some (.agg #[iv 0,iv 0,iv 0,iv 0]):=by kernel_rfl
theorem AB {w:World} {g o p:Nat} (hp:o+0=p):(Instr.fieldAt 23 (.pointer (some ⟨g,o,none⟩)) 0).run Tryz.prog w= .ok (.pointer (some ⟨g,p,none⟩)) w:=bl Tryz.underlying23 rfl rfl cD rfl p hp
theorem Bk {w:World} {g o p:Nat} (hp:o+1=p):(Instr.fieldAt 23 (.pointer (some ⟨g,o,none⟩)) 1).run Tryz.prog w= .ok (.pointer (some ⟨g,p,none⟩)) w:=bl Tryz.underlying23 rfl rfl cD rfl p hp
theorem BQ {w:World} {g o p:Nat} (hp:o+2=p):(Instr.fieldAt 23 (.pointer (some ⟨g,o,none⟩)) 2).run Tryz.prog w= .ok (.pointer (some ⟨g,p,none⟩)) w:=bl Tryz.underlying23 rfl rfl cD rfl p hp
theorem Aj {w:World} {g o p:Nat} (hp:o+3=p):(Instr.fieldAt 23 (.pointer (some ⟨g,o,none⟩)) 3).run Tryz.prog w= .ok (.pointer (some ⟨g,p,none⟩)) w:=bl Tryz.underlying23 rfl rfl cD rfl p hp
theorem jl:Ty Tryz.prog 89 3 [iv 0,iv 0,iv 0]:=⟨⟨_,Tryz.underlying89,rfl⟩,Fi,yd⟩
theorem yo {w:World} {op:BinOp} {x y:Operand} {xs ys:Array Value}:(eqGuard op 89 x y (.agg xs) (.agg ys)).run Tryz.prog w= .ok () w:=run_eqGuard_agg w op _ x y xs ys (by kernel_rfl)
theorem EV (w:World) {zx0:Int} {zx1:Int} {zx2:Int} {zy0:Int} {zy1:Int} {zy2:Int}:(Op.equalIn 10000 89 (.agg #[iv zx0,iv zx1,iv zx2]) (.agg #[iv zy0,iv zy1,iv zy2])).run Tryz.prog w= .ok (decide (zx0=zy0/\zx1=zy1/\zx2=zy2)) w:=by
 rw[run_equalIn_agg w 9999 _ _ _ (by kernel_rfl) (by kernel_rfl)]
 have hf:(Tryz.prog.fieldsOf 89).toList =(match Tryz.prog.underlying 89 with|some (.struct fs)=>fs.toList|_=>[]):=by kernel_rfl
 rw[hf,Tryz.underlying89]
 have hx:(Op.eqFields 9999 #[iv zx0,iv zx1,iv zx2] #[iv zy0,iv zy1,iv zy2] (match Tryz.prog.underlying 89 with|some (.struct fs)=>fs.toList|_=>[])).run Tryz.prog w= .ok ((decide (zx0=zy0) && (decide (zx1=zy1) && (decide (zx2=zy2) && true)))) w:=by
  rw[Tryz.underlying89]
  exact p9 (by decide) Tryz.underlying2 rfl rfl (p9 (by decide) Tryz.underlying3 rfl rfl (p9 (by decide) Tryz.underlying3 rfl rfl (EA)))
 rw[Tryz.underlying89] at hx
 rw[hx]
 simp only [Bool.and_true,Df]
theorem zy {w:World} {zx0:Int} {zx1:Int} {zx2:Int} {zy0:Int} {zy1:Int} {zy2:Int} {c:Bool} (h:decide (zx0=zy0/\zx1=zy1/\zx2=zy2)=c):(binOp .eql 89 (.agg #[iv zx0,iv zx1,iv zx2]) (.agg #[iv zy0,iv zy1,iv zy2])).run Tryz.prog w= .ok (.bool c) w:=by
 subst h
 rw[run_eql_struct,EV]
 rfl
theorem sd:Ty Tryz.prog 23 4 [iv 0,iv 0,iv 0,iv 0]:=⟨⟨_,Tryz.underlying23,rfl⟩,GK,Fn⟩
end Go.Proofs.YtgdpkknapcgcbaaGreatDoor
