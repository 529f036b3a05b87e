import Derived.Test.YtdbiegfmgabicaaGreatDoorKA16
import Derived.Laws.StructEq
namespace Go.Proofs.YtdbiegfmgabicaaGreatDoor
open Go.RowKit
set_option maxRecDepth 100000
set_option linter.unusedVariables false
set_option maxHeartbeats 8000000
theorem pi {a:Act} {i j k l:Nat} {x y z u:Operand} {p q r s:Value} (h:a.eval x=p) (h2:a.eval y=q) (h3:a.eval z=r) (h4:a.eval u=s):(#[(i,x),(j,y),(k,z),(l,u)].map fun(p:Nat×Operand)=>(p.1,a.eval p.2))=#[(i,p),(j,q),(k,r),(l,s)]:=by simp[h,h2,h3,h4]
theorem uu {a:Act} {i j k l m:Nat} {x y z u v:Operand} {p q r s t:Value} (h:a.eval x=p) (h2:a.eval y=q) (h3:a.eval z=r) (h4:a.eval u=s) (h5:a.eval v=t):(#[(i,x),(j,y),(k,z),(l,u),(m,v)].map fun(p:Nat×Operand)=>(p.1,a.eval p.2))=#[(i,p),(j,q),(k,r),(l,s),(m,t)]:=by simp[h,h2,h3,h4,h5]
theorem Kq:(Tryz.prog.info? 161).map (·.size)=some 12:=by kernel_rfl
theorem Cy:(Tryz.prog.info? 161).bind (·.zero)=some (.agg #[.bool false,.slice none 0 0,.slice none 0 0,.bool false,.slice none 0 0,.slice none 0 0,.bool false,.slice none 0 0,.slice none 0 0,.bool false,.slice none 0 0,.slice none 0 0]):=by kernel_rfl
theorem FD {w:World} {g o p:Nat} (hp:o+0=p):(Instr.fieldAt 161 (.pointer (some ⟨g,o,none⟩)) 0).run Tryz.prog w= .ok (.pointer (some ⟨g,p,none⟩)) w:=br Tryz.underlying161 rfl rfl jh rfl p hp
theorem F0 {w:World} {g o p:Nat} (hp:o+3=p):(Instr.fieldAt 161 (.pointer (some ⟨g,o,none⟩)) 1).run Tryz.prog w= .ok (.pointer (some ⟨g,p,none⟩)) w:=br Tryz.underlying161 rfl rfl jh rfl p hp
theorem uS {w:World} {g o p:Nat} (hp:o+6=p):(Instr.fieldAt 161 (.pointer (some ⟨g,o,none⟩)) 2).run Tryz.prog w= .ok (.pointer (some ⟨g,p,none⟩)) w:=br Tryz.underlying161 rfl rfl jh rfl p hp
theorem EJ {w:World} {g o p:Nat} (hp:o+9=p):(Instr.fieldAt 161 (.pointer (some ⟨g,o,none⟩)) 3).run Tryz.prog w= .ok (.pointer (some ⟨g,p,none⟩)) w:=br Tryz.underlying161 rfl rfl jh rfl p hp
theorem uB {place:Nat→Option (Nat×Nat)} {cells:Array Value} {i off:Nat} {x y z:Value} {rest:List (Nat×Value)} (hp:place i=some (off,3)) (hc:off+3≤cells.size):
 Instr.fill place cells ((i,.agg #[x,y,z])::rest)=Instr.fill place (((cells.setIfInBounds off x).setIfInBounds (off+1) y).setIfInBounds (off+2) z) rest:=by
 conv=>lhs;unfold Instr.fill
 rw[hp]
 have h1:(Value.agg #[x,y,z]).cells =#[x,y,z]:=rfl
 simp only [h1]
 rw[if_neg (by simp;omega)]
 have h2:∀f:Array Value→Value×Nat→Array Value,Array.foldl f cells #[x,y,z].zipIdx =f (f (f cells (x,0)) (y,1)) (z,2):=fun f=>rfl
 rw[h2]
 rfl
theorem qf (b00:Bool) (a01:Option Addr) (n01 c01:Nat) (a02:Option Addr) (n02 c02:Nat) (b10:Bool) (a11:Option Addr) (n11 c11:Nat) (a12:Option Addr) (n12 c12:Nat) (b20:Bool) (a21:Option Addr) (n21 c21:Nat) (a22:Option Addr) (n22 c22:Nat) (b30:Bool) (a31:Option Addr) (n31 c31:Nat) (a32:Option Addr) (n32 c32:Nat) (w:World):(Instr.build 161 #[(0,.agg #[.bool b00,.slice a01 n01 c01,.slice a02 n02 c02]),(1,.agg #[.bool b10,.slice a11 n11 c11,.slice a12 n12 c12]),(2,.agg #[.bool b20,.slice a21 n21 c21,.slice a22 n22 c22]),(3,.agg #[.bool b30,.slice a31 n31 c31,.slice a32 n32 c32])]).run Tryz.prog w= .ok (.agg #[.bool b00,.slice a01 n01 c01,.slice a02 n02 c02,.bool b10,.slice a11 n11 c11,.slice a12 n12 c12,.bool b20,.slice a21 n21 c21,.slice a22 n22 c22,.bool b30,.slice a31 n31 c31,.slice a32 n32 c32]) w:=by
 have hz:=cI Cy w
 have h_Rat:∀w,(sizeOf 55).run Tryz.prog w= .ok 3 w:=fun w=>bn jh w
 simp only [Instr.build,Sem.run_bind,hz,Result.andThen_ok,run_underlying Tryz.underlying161,List.mapM_toArray,List.mapM_cons,List.mapM_nil,Sem.run_map,h_Rat,Sem.run_pure]
 rw[show(Value.agg #[Value.bool false,Value.slice none 0 0,Value.slice none 0 0,Value.bool false,Value.slice none 0 0,Value.slice none 0 0,Value.bool false,Value.slice none 0 0,Value.slice none 0 0,Value.bool false,Value.slice none 0 0,Value.slice none 0 0]).cells =#[Value.bool false,Value.slice none 0 0,Value.slice none 0 0,Value.bool false,Value.slice none 0 0,Value.slice none 0 0,Value.bool false,Value.slice none 0 0,Value.slice none 0 0,Value.bool false,Value.slice none 0 0,Value.slice none 0 0] from rfl]
 rw[uB (off:=0) rfl (by simp),uB (off:=3) rfl (by simp),uB (off:=6) rfl (by simp),uB (off:=9) rfl (by simp)]
 simp only [List.setIfInBounds_toArray,List.set_cons_zero,List.set_cons_succ,Nat.reduceAdd,Nat.zero_add]
 rfl
def Orb (w:World) (v:Value) (p an s c:Rat):Prop:=
 ∃b1 a1 n1 c1 d1 m1 e1 b2 a2 n2 c2 d2 m2 e2 b3 a3 n3 c3 d3 m3 e3 b4 a4 n4 c4 d4 m4 e4,v= .agg #[.bool b1,.slice a1 n1 c1,.slice d1 m1 e1,.bool b2,.slice a2 n2 c2,.slice d2 m2 e2,.bool b3,.slice a3 n3 c3,.slice d3 m3 e3,.bool b4,.slice a4 n4 c4,.slice d4 m4 e4]∧
  Rq w (.agg #[.bool b1,.slice a1 n1 c1,.slice d1 m1 e1]) p∧Rq w (.agg #[.bool b2,.slice a2 n2 c2,.slice d2 m2 e2]) an∧Rq w (.agg #[.bool b3,.slice a3 n3 c3,.slice d3 m3 e3]) s∧Rq w (.agg #[.bool b4,.slice a4 n4 c4,.slice d4 m4 e4]) c
theorem Orb.below {w w':World} {v:Value} {p an s c:Rat} (h:Orb w v p an s c) (hb:Below w.heap.size w w'):Orb w' v p an s c:=by
 obtain⟨b1,a1,n1,c1,d1,m1,e1,b2,a2,n2,c2,d2,m2,e2,b3,a3,n3,c3,d3,m3,e3,b4,a4,n4,c4,d4,m4,e4,h0,h1,h2,h3,h4⟩:=h
 exact⟨b1,a1,n1,c1,d1,m1,e1,b2,a2,n2,c2,d2,m2,e2,b3,a3,n3,c3,d3,m3,e3,b4,a4,n4,c4,d4,m4,e4,h0,h1.below hb,h2.below hb,h3.below hb,h4.below hb⟩
def yT (w:World) (p an s c:Rat) (e:Ending) (w':World):Prop:=∃v,e= .returned v∧Orb w' v p an s c∧Below w.heap.size w w'
theorem lq:Ty Tryz.prog 161 12 [.bool false,.slice none 0 0,.slice none 0 0,.bool false,.slice none 0 0,.slice none 0 0,.bool false,.slice none 0 0,.slice none 0 0,.bool false,.slice none 0 0,.slice none 0 0]:=⟨⟨_,Tryz.underlying161,rfl⟩,Kq,Cy⟩
theorem na {P:Program} {w:World} {d:Nat} {xs ys:Array Value} {f:Field} {fs:List Field} {s:Bool} {a b:Bool} (hn:(f.name != "_")=true) (hu:P.underlying f.type=some .bool) (h1:xs[f.offset]?=some (.bool a)) (h2:ys[f.offset]?=some (.bool b))
 (hr:(Op.eqFields (d+1) xs ys fs).run P w= .ok s w):(Op.eqFields (d+1) xs ys (f::fs)).run P w= .ok (decide (a=b) && s) w:=by
 have hn':f.name≠ "_":=by simpa using hn
 simp only [Op.eqFields,Sem.run_bind,Sem.run_ite,if_pos hn',m7 hu rfl h1,m7 hu rfl h2,Result.andThen_ok,run_equalIn_bool w d f.type a b hu]
 by_cases e:a=b
 ·subst e;simp[hr]
 ·simp[e]
theorem cz {w:World} {g o:Nat} {cs:List Value} {v:Value} (h:Blk w g cs) (hv:cs[o]?=some v):(Instr.loadAt 4 (.pointer (some ⟨g,o,none⟩))).run Tryz.prog w= .ok v w:=lK h hv Tryz.underlying4 rfl
theorem Ki:(Tryz.prog.info? 29).map (·.size)=some 5:=by kernel_rfl
theorem wZ:(Tryz.prog.info? 29).bind (·.zero)=some (.agg #[.int .i64 0,.int .i64 0,.bool false,.int .i64 0,.bool false]):=by kernel_rfl
theorem li {w:World} {g o p:Nat} (hp:o+0=p):(Instr.fieldAt 29 (.pointer (some ⟨g,o,none⟩)) 0).run Tryz.prog w= .ok (.pointer (some ⟨g,p,none⟩)) w:=br Tryz.underlying29 rfl rfl cM rfl p hp
theorem fJ {w:World} {g o p:Nat} (hp:o+1=p):(Instr.fieldAt 29 (.pointer (some ⟨g,o,none⟩)) 1).run Tryz.prog w= .ok (.pointer (some ⟨g,p,none⟩)) w:=br Tryz.underlying29 rfl rfl fB rfl p hp
theorem hZ {w:World} {g o p:Nat} (hp:o+2=p):(Instr.fieldAt 29 (.pointer (some ⟨g,o,none⟩)) 2).run Tryz.prog w= .ok (.pointer (some ⟨g,p,none⟩)) w:=br Tryz.underlying29 rfl rfl fl rfl p hp
theorem cG {w:World} {g o p:Nat} (hp:o+3=p):(Instr.fieldAt 29 (.pointer (some ⟨g,o,none⟩)) 3).run Tryz.prog w= .ok (.pointer (some ⟨g,p,none⟩)) w:=br Tryz.underlying29 rfl rfl fB rfl p hp
theorem dH {w:World} {g o p:Nat} (hp:o+4=p):(Instr.fieldAt 29 (.pointer (some ⟨g,o,none⟩)) 4).run Tryz.prog w= .ok (.pointer (some ⟨g,p,none⟩)) w:=br Tryz.underlying29 rfl rfl fl rfl p hp
theorem mg (w:World):(Instr.build 29 #[]).run Tryz.prog w= .ok (.agg #[.int .i64 0,.int .i64 0,.bool false,.int .i64 0,.bool false]) w:=by
 have hz:=cI wZ w
 have h_bool:∀w,(sizeOf 4).run Tryz.prog w= .ok 1 w:=fun w=>bn fl w
 have h_int:∀w,(sizeOf 3).run Tryz.prog w= .ok 1 w:=fun w=>bn fB w
 have h_i64:∀w,(sizeOf 2).run Tryz.prog w= .ok 1 w:=fun w=>bn cM w
 simp only [Instr.build,Sem.run_bind,hz,Result.andThen_ok,run_underlying Tryz.underlying29,List.mapM_toArray,List.mapM_cons,List.mapM_nil,Sem.run_map,h_bool,h_i64,h_int,Sem.run_pure]
 rfl
theorem wJ (z00:Int) (z10:Int) (b20:Bool) (z30:Int) (b40:Bool) (w:World):(Instr.build 29 #[(0,.int .i64 z00),(1,.int .i64 z10),(2,.bool b20),(3,.int .i64 z30),(4,.bool b40)]).run Tryz.prog w= .ok (.agg #[.int .i64 z00,.int .i64 z10,.bool b20,.int .i64 z30,.bool b40]) w:=by
 have hz:=cI wZ w
 have h_bool:∀w,(sizeOf 4).run Tryz.prog w= .ok 1 w:=fun w=>bn fl w
 have h_int:∀w,(sizeOf 3).run Tryz.prog w= .ok 1 w:=fun w=>bn fB w
 have h_i64:∀w,(sizeOf 2).run Tryz.prog w= .ok 1 w:=fun w=>bn cM w
 simp only [Instr.build,Sem.run_bind,hz,Result.andThen_ok,run_underlying Tryz.underlying29,List.mapM_toArray,List.mapM_cons,List.mapM_nil,Sem.run_map,h_bool,h_i64,h_int,Sem.run_pure]
 rfl
theorem L5:(Tryz.prog.info? 43).map (·.size)=some 5:=by kernel_rfl
theorem Ba:(Tryz.prog.info? 43).bind (·.zero)=some (.agg #[.int .i64 0,.int .i64 0,.bool false,.int .i64 0,.bool false]):=by kernel_rfl
theorem pf (z00:Int) (z10:Int) (b20:Bool) (z30:Int) (b40:Bool) (w:World):(Instr.build 43 #[(0,.int .i64 z00),(1,.int .i64 z10),(2,.bool b20),(3,.int .i64 z30),(4,.bool b40)]).run Tryz.prog w= .ok (.agg #[.int .i64 z00,.int .i64 z10,.bool b20,.int .i64 z30,.bool b40]) w:=by
 have hz:=cI Ba w
 have h_bool:∀w,(sizeOf 4).run Tryz.prog w= .ok 1 w:=fun w=>bn fl w
 have h_int:∀w,(sizeOf 3).run Tryz.prog w= .ok 1 w:=fun w=>bn fB w
 simp only [Instr.build,Sem.run_bind,hz,Result.andThen_ok,run_underlying Tryz.underlying43,List.mapM_toArray,List.mapM_cons,List.mapM_nil,Sem.run_map,h_bool,h_int,Sem.run_pure]
 rfl
theorem cL:Ty Tryz.prog 29 5 [.int .i64 0,.int .i64 0,.bool false,.int .i64 0,.bool false]:=⟨⟨_,Tryz.underlying29,rfl⟩,Ki,wZ⟩
theorem sr {w:World} {op:BinOp} {x y:Operand} {xs ys:Array Value}:(eqGuard op 29 x y (.agg xs) (.agg ys)).run Tryz.prog w= .ok () w:=run_eqGuard_agg w op _ x y xs ys (by kernel_rfl)
theorem Jz (w:World) {zx0:Int} {zx1:Int} {bx2:Bool} {zx3:Int} {bx4:Bool} {zy0:Int} {zy1:Int} {by2:Bool} {zy3:Int} {by4:Bool}:(Op.equalIn 10000 29 (.agg #[.int .i64 zx0,.int .i64 zx1,.bool bx2,.int .i64 zx3,.bool bx4]) (.agg #[.int .i64 zy0,.int .i64 zy1,.bool by2,.int .i64 zy3,.bool by4])).run Tryz.prog w= .ok (decide (zx0=zy0∧zx1=zy1∧bx2=by2∧zx3=zy3∧bx4=by4)) w:=by
 rw[run_equalIn_agg w 9999 _ _ _ (by kernel_rfl) (by kernel_rfl)]
 have hf:(Tryz.prog.fieldsOf 29).toList =(match Tryz.prog.underlying 29 with|some (.struct fs)=>fs.toList|_=>[]):=by kernel_rfl
 rw[hf,Tryz.underlying29]
 have hx:(Op.eqFields 9999 #[.int .i64 zx0,.int .i64 zx1,.bool bx2,.int .i64 zx3,.bool bx4] #[.int .i64 zy0,.int .i64 zy1,.bool by2,.int .i64 zy3,.bool by4] (match Tryz.prog.underlying 29 with|some (.struct fs)=>fs.toList|_=>[])).run Tryz.prog w= .ok ((decide (zx0=zy0) && (decide (zx1=zy1) && (decide (bx2=by2) && (decide (zx3=zy3) && (decide (bx4=by4) && true)))))) w:=by
  rw[Tryz.underlying29]
  exact ku (by decide) Tryz.underlying2 rfl rfl (ku (by decide) Tryz.underlying3 rfl rfl (na (by decide) Tryz.underlying4 rfl rfl (ku (by decide) Tryz.underlying3 rfl rfl (na (by decide) Tryz.underlying4 rfl rfl (yg)))))
 rw[Tryz.underlying29] at hx
 rw[hx]
 simp only [Bool.and_true,yt]
theorem rq {w:World} {zx0:Int} {zx1:Int} {bx2:Bool} {zx3:Int} {bx4:Bool} {zy0:Int} {zy1:Int} {by2:Bool} {zy3:Int} {by4:Bool} {c:Bool} (h:decide (zx0=zy0∧zx1=zy1∧bx2=by2∧zx3=zy3∧bx4=by4)=c):(binOp .eql 29 (.agg #[.int .i64 zx0,.int .i64 zx1,.bool bx2,.int .i64 zx3,.bool bx4]) (.agg #[.int .i64 zy0,.int .i64 zy1,.bool by2,.int .i64 zy3,.bool by4])).run Tryz.prog w= .ok (.bool c) w:=by
 subst h
 rw[run_eql_struct,Jz]
 rfl
theorem mn:Ty Tryz.prog 43 5 [.int .i64 0,.int .i64 0,.bool false,.int .i64 0,.bool false]:=⟨⟨_,Tryz.underlying43,rfl⟩,L5,Ba⟩
theorem JS {w:World} {op:BinOp} {x y:Operand} {xs ys:Array Value}:(eqGuard op 43 x y (.agg xs) (.agg ys)).run Tryz.prog w= .ok () w:=run_eqGuard_agg w op _ x y xs ys (by kernel_rfl)
theorem JN (w:World) {zx0:Int} {zx1:Int} {bx2:Bool} {zx3:Int} {bx4:Bool} {zy0:Int} {zy1:Int} {by2:Bool} {zy3:Int} {by4:Bool}:(Op.equalIn 10000 43 (.agg #[.int .i64 zx0,.int .i64 zx1,.bool bx2,.int .i64 zx3,.bool bx4]) (.agg #[.int .i64 zy0,.int .i64 zy1,.bool by2,.int .i64 zy3,.bool by4])).run Tryz.prog w= .ok (decide (zx0=zy0∧zx1=zy1∧bx2=by2∧zx3=zy3∧bx4=by4)) w:=by
 rw[run_equalIn_agg w 9999 _ _ _ (by kernel_rfl) (by kernel_rfl)]
 have hf:(Tryz.prog.fieldsOf 43).toList =(match Tryz.prog.underlying 43 with|some (.struct fs)=>fs.toList|_=>[]):=by kernel_rfl
 rw[hf,Tryz.underlying43]
 have hx:(Op.eqFields 9999 #[.int .i64 zx0,.int .i64 zx1,.bool bx2,.int .i64 zx3,.bool bx4] #[.int .i64 zy0,.int .i64 zy1,.bool by2,.int .i64 zy3,.bool by4] (match Tryz.prog.underlying 43 with|some (.struct fs)=>fs.toList|_=>[])).run Tryz.prog w= .ok ((decide (zx0=zy0) && (decide (zx1=zy1) && (decide (bx2=by2) && (decide (zx3=zy3) && (decide (bx4=by4) && true)))))) w:=by
  rw[Tryz.underlying43]
  exact ku (by decide) Tryz.underlying3 rfl rfl (ku (by decide) Tryz.underlying3 rfl rfl (na (by decide) Tryz.underlying4 rfl rfl (ku (by decide) Tryz.underlying3 rfl rfl (na (by decide) Tryz.underlying4 rfl rfl (yg)))))
 rw[Tryz.underlying43] at hx
 rw[hx]
 simp only [Bool.and_true,yt]
theorem JR {w:World} {zx0:Int} {zx1:Int} {bx2:Bool} {zx3:Int} {bx4:Bool} {zy0:Int} {zy1:Int} {by2:Bool} {zy3:Int} {by4:Bool} {c:Bool} (h:decide (zx0=zy0∧zx1=zy1∧bx2=by2∧zx3=zy3∧bx4=by4)=c):(binOp .eql 43 (.agg #[.int .i64 zx0,.int .i64 zx1,.bool bx2,.int .i64 zx3,.bool bx4]) (.agg #[.int .i64 zy0,.int .i64 zy1,.bool by2,.int .i64 zy3,.bool by4])).run Tryz.prog w= .ok (.bool c) w:=by
 subst h
 rw[run_eql_struct,JN]
 rfl
end Go.Proofs.YtdbiegfmgabicaaGreatDoor
