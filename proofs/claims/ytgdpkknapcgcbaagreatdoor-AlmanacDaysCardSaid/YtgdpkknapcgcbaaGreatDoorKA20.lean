import Derived.Test.YtgdpkknapcgcbaaGreatDoorKA18
import Derived.Laws.StructEq
namespace Go.Proofs.YtgdpkknapcgcbaaGreatDoor
open Go.RowKit
set_option maxRecDepth 100000
set_option linter.unusedVariables false
set_option maxHeartbeats 8000000
theorem l7 {a:Act} {i j k l:Nat} {x y z u:Operand} {p q r s:Value} (h:a.eval x=p) (h2:a.eval y=q) (h3:a.eval z=r) (h4:a.eval u=s):(#[(i,x),(j,y),(k,z),(l,u)].map fun(p:Nat×Operand)=>(p.1,a.eval p.2))=#[(i,p),(j,q),(k,r),(l,s)]:=by simp[h,h2,h3,h4]
theorem tw {a:Act} {i j k l m:Nat} {x y z u v:Operand} {p q r s t:Value} (h:a.eval x=p) (h2:a.eval y=q) (h3:a.eval z=r) (h4:a.eval u=s) (h5:a.eval v=t):(#[(i,x),(j,y),(k,z),(l,u),(m,v)].map fun(p:Nat×Operand)=>(p.1,a.eval p.2))=#[(i,p),(j,q),(k,r),(l,s),(m,t)]:=by simp[h,h2,h3,h4,h5]
theorem Ic:(Tryz.prog.info? 187).map (·.size)=some 12:=by kernel_rfl
theorem BV:(Tryz.prog.info? 187).bind (·.zero)=some (.agg #[.bool false,.slice none 0 0,.slice none 0 0,.bool false,.slice none 0 0,.slice none 0 0,.bool false,.slice none 0 0,.slice none 0 0,.bool false,.slice none 0 0,.slice none 0 0]):=by kernel_rfl
theorem Ej {w:World} {g o p:Nat} (hp:o+0=p):(Instr.fieldAt 187 (.pointer (some ⟨g,o,none⟩)) 0).run Tryz.prog w= .ok (.pointer (some ⟨g,p,none⟩)) w:=aQ Tryz.underlying187 rfl rfl di rfl p hp
theorem C0 {w:World} {g o p:Nat} (hp:o+3=p):(Instr.fieldAt 187 (.pointer (some ⟨g,o,none⟩)) 1).run Tryz.prog w= .ok (.pointer (some ⟨g,p,none⟩)) w:=aQ Tryz.underlying187 rfl rfl di rfl p hp
theorem uF {w:World} {g o p:Nat} (hp:o+6=p):(Instr.fieldAt 187 (.pointer (some ⟨g,o,none⟩)) 2).run Tryz.prog w= .ok (.pointer (some ⟨g,p,none⟩)) w:=aQ Tryz.underlying187 rfl rfl di rfl p hp
theorem CE {w:World} {g o p:Nat} (hp:o+9=p):(Instr.fieldAt 187 (.pointer (some ⟨g,o,none⟩)) 3).run Tryz.prog w= .ok (.pointer (some ⟨g,p,none⟩)) w:=aQ Tryz.underlying187 rfl rfl di rfl p hp
theorem jy {place:Nat->Option (Nat×Nat)} {cells:Array Value} {i off:Nat} {x y z:Value} {rest:List (Nat×Value)} (hp:place i=some (off,3)) (hc:off+3<=cells.size):
 Instr.fill place cells ((i,.agg #[x,y,z])::rest)=Instr.fill place (((cells.setIfInBounds off x).setIfInBounds (off+1) y).setIfInBounds (off+2) z) rest:=by
 conv=>lhs;unfold Instr.fill
 rw[hp]
 have h1:(Value.agg #[x,y,z]).cells =#[x,y,z]:=rfl
 simp only [h1]
 rw[if_neg (by simp;omega)]
 have h2:∀f:Array Value->Value×Nat->Array Value,Array.foldl f cells #[x,y,z].zipIdx =f (f (f cells (x,0)) (y,1)) (z,2):=fun f=>rfl
 rw[h2]
 rfl
theorem oI (b00:Bool) (a01:Option Addr) (n01 c01:Nat) (a02:Option Addr) (n02 c02:Nat) (b10:Bool) (a11:Option Addr) (n11 c11:Nat) (a12:Option Addr) (n12 c12:Nat) (b20:Bool) (a21:Option Addr) (n21 c21:Nat) (a22:Option Addr) (n22 c22:Nat) (b30:Bool) (a31:Option Addr) (n31 c31:Nat) (a32:Option Addr) (n32 c32:Nat) (w:World):(Instr.build 187 #[(0,.agg #[.bool b00,.slice a01 n01 c01,.slice a02 n02 c02]),(1,.agg #[.bool b10,.slice a11 n11 c11,.slice a12 n12 c12]),(2,.agg #[.bool b20,.slice a21 n21 c21,.slice a22 n22 c22]),(3,.agg #[.bool b30,.slice a31 n31 c31,.slice a32 n32 c32])]).run Tryz.prog w= .ok (.agg #[.bool b00,.slice a01 n01 c01,.slice a02 n02 c02,.bool b10,.slice a11 n11 c11,.slice a12 n12 c12,.bool b20,.slice a21 n21 c21,.slice a22 n22 c22,.bool b30,.slice a31 n31 c31,.slice a32 n32 c32]) w:=by
 have hz:=bO BV w
 have h_Rat:∀w,(sizeOf 33).run Tryz.prog w= .ok 3 w:=fun w=>aH di w
 simp only [Instr.build,Sem.run_bind,hz,Result.andThen_ok,run_underlying Tryz.underlying187,List.mapM_toArray,List.mapM_cons,List.mapM_nil,Sem.run_map,h_Rat,Sem.run_pure]
 rw[show(Value.agg #[Value.bool false,Value.slice none 0 0,Value.slice none 0 0,Value.bool false,Value.slice none 0 0,Value.slice none 0 0,Value.bool false,Value.slice none 0 0,Value.slice none 0 0,Value.bool false,Value.slice none 0 0,Value.slice none 0 0]).cells =#[Value.bool false,Value.slice none 0 0,Value.slice none 0 0,Value.bool false,Value.slice none 0 0,Value.slice none 0 0,Value.bool false,Value.slice none 0 0,Value.slice none 0 0,Value.bool false,Value.slice none 0 0,Value.slice none 0 0] from rfl]
 rw[jy (off:=0) rfl (by simp),jy (off:=3) rfl (by simp),jy (off:=6) rfl (by simp),jy (off:=9) rfl (by simp)]
 simp only [List.setIfInBounds_toArray,List.set_cons_zero,List.set_cons_succ,Nat.reduceAdd,Nat.zero_add]
 rfl
theorem Gl:(Tryz.prog.info? 125).map (·.size)=some 5:=by kernel_rfl
theorem xg:(Tryz.prog.info? 125).bind (·.zero)=some (.agg #[iv 0,iv 0,iv 0,iv 0,iv 0]):=by kernel_rfl
theorem tl (z00:Int) (z10:Int) (z20:Int) (z30:Int) (z40:Int) (w:World):(Instr.build 125 #[(0,iv z00),(1,iv z10),(2,iv z20),(3,iv z30),(4,iv z40)]).run Tryz.prog w= .ok (.agg #[iv z00,iv z10,iv z20,iv z30,iv z40]) w:=by
 have hz:=bO xg w
 have h_int:∀w,(sizeOf 3).run Tryz.prog w= .ok 1 w:=fun w=>aH cE w
 simp only [Instr.build,Sem.run_bind,hz,Result.andThen_ok,run_underlying Tryz.underlying125,List.mapM_toArray,List.mapM_cons,List.mapM_nil,Sem.run_map,h_int,Sem.run_pure]
 rfl
theorem DW:(Tryz.prog.info? 182).map (·.size)=some 5:=by kernel_rfl
theorem t8:(Tryz.prog.info? 182).bind (·.zero)=some (.agg #[iv 0,iv 0,iv 0,iv 0,iv 0]):=by kernel_rfl
theorem zy {w:World} {g o p:Nat} (hp:o+0=p):(Instr.fieldAt 182 (.pointer (some ⟨g,o,none⟩)) 0).run Tryz.prog w= .ok (.pointer (some ⟨g,p,none⟩)) w:=aQ Tryz.underlying182 rfl rfl cE rfl p hp
theorem yN {w:World} {g o p:Nat} (hp:o+1=p):(Instr.fieldAt 182 (.pointer (some ⟨g,o,none⟩)) 1).run Tryz.prog w= .ok (.pointer (some ⟨g,p,none⟩)) w:=aQ Tryz.underlying182 rfl rfl cE rfl p hp
theorem yL {w:World} {g o p:Nat} (hp:o+2=p):(Instr.fieldAt 182 (.pointer (some ⟨g,o,none⟩)) 2).run Tryz.prog w= .ok (.pointer (some ⟨g,p,none⟩)) w:=aQ Tryz.underlying182 rfl rfl cE rfl p hp
theorem yA {w:World} {g o p:Nat} (hp:o+3=p):(Instr.fieldAt 182 (.pointer (some ⟨g,o,none⟩)) 3).run Tryz.prog w= .ok (.pointer (some ⟨g,p,none⟩)) w:=aQ Tryz.underlying182 rfl rfl cE rfl p hp
theorem zf {w:World} {g o p:Nat} (hp:o+4=p):(Instr.fieldAt 182 (.pointer (some ⟨g,o,none⟩)) 4).run Tryz.prog w= .ok (.pointer (some ⟨g,p,none⟩)) w:=aQ Tryz.underlying182 rfl rfl cE rfl p hp
theorem rP (z00:Int) (z10:Int) (z20:Int) (z30:Int) (z40:Int) (w:World):(Instr.build 182 #[(0,iv z00),(1,iv z10),(2,iv z20),(3,iv z30),(4,iv z40)]).run Tryz.prog w= .ok (.agg #[iv z00,iv z10,iv z20,iv z30,iv z40]) w:=by
 have hz:=bO t8 w
 have h_int:∀w,(sizeOf 3).run Tryz.prog w= .ok 1 w:=fun w=>aH cE w
 simp only [Instr.build,Sem.run_bind,hz,Result.andThen_ok,run_underlying Tryz.underlying182,List.mapM_toArray,List.mapM_cons,List.mapM_nil,Sem.run_map,h_int,Sem.run_pure]
 rfl
theorem AE (zx0:Int) (zx1:Int) (zx2:Int) (zx3:Int) (zx4:Int) (w:World):(Instr.field 125 (.agg #[iv zx0,iv zx1,iv zx2,iv zx3,iv zx4]) 2).run Tryz.prog w= .ok (iv zx2) w:=by
 have ha:(isAgg 3).run Tryz.prog w= .ok false w:=by
  unfold isAgg
  rw[Sem.run_bind,run_underlying Tryz.underlying3 w]
  rfl
 simp only [Instr.field,Sem.run_bind,run_underlying Tryz.underlying125,Result.andThen_ok]
 show((part 3 #[iv zx0,iv zx1,iv zx2,iv zx3,iv zx4] 2).run Tryz.prog w)=_
 simp only [part,Sem.run_bind,ha,Result.andThen_ok]
 rfl
theorem zU (zx0:Int) (zx1:Int) (zx2:Int) (zx3:Int) (zx4:Int) (w:World):(Instr.field 125 (.agg #[iv zx0,iv zx1,iv zx2,iv zx3,iv zx4]) 3).run Tryz.prog w= .ok (iv zx3) w:=by
 have ha:(isAgg 3).run Tryz.prog w= .ok false w:=by
  unfold isAgg
  rw[Sem.run_bind,run_underlying Tryz.underlying3 w]
  rfl
 simp only [Instr.field,Sem.run_bind,run_underlying Tryz.underlying125,Result.andThen_ok]
 show((part 3 #[iv zx0,iv zx1,iv zx2,iv zx3,iv zx4] 3).run Tryz.prog w)=_
 simp only [part,Sem.run_bind,ha,Result.andThen_ok]
 rfl
theorem Ak (zx0:Int) (zx1:Int) (zx2:Int) (zx3:Int) (zx4:Int) (w:World):(Instr.field 125 (.agg #[iv zx0,iv zx1,iv zx2,iv zx3,iv zx4]) 4).run Tryz.prog w= .ok (iv zx4) w:=by
 have ha:(isAgg 3).run Tryz.prog w= .ok false w:=by
  unfold isAgg
  rw[Sem.run_bind,run_underlying Tryz.underlying3 w]
  rfl
 simp only [Instr.field,Sem.run_bind,run_underlying Tryz.underlying125,Result.andThen_ok]
 show((part 3 #[iv zx0,iv zx1,iv zx2,iv zx3,iv zx4] 4).run Tryz.prog w)=_
 simp only [part,Sem.run_bind,ha,Result.andThen_ok]
 rfl
def Orb (w:World) (v:Value) (p an s c:Rat):Prop:=
 ∃b1 a1 n1 c1 d1 m1 e1 b2 a2 n2 c2 d2 m2 e2 b3 a3 n3 c3 d3 m3 e3 b4 a4 n4 c4 d4 m4 e4,v= .agg #[.bool b1,.slice a1 n1 c1,.slice d1 m1 e1,.bool b2,.slice a2 n2 c2,.slice d2 m2 e2,.bool b3,.slice a3 n3 c3,.slice d3 m3 e3,.bool b4,.slice a4 n4 c4,.slice d4 m4 e4]/\
  Rq w (.agg #[.bool b1,.slice a1 n1 c1,.slice d1 m1 e1]) p/\Rq w (.agg #[.bool b2,.slice a2 n2 c2,.slice d2 m2 e2]) an/\Rq w (.agg #[.bool b3,.slice a3 n3 c3,.slice d3 m3 e3]) s/\Rq w (.agg #[.bool b4,.slice a4 n4 c4,.slice d4 m4 e4]) c
theorem Orb.below {w w':World} {v:Value} {p an s c:Rat} (h:Orb w v p an s c) (hb:Below w.heap.size w w'):Orb w' v p an s c:=by
 obtain⟨b1,a1,n1,c1,d1,m1,e1,b2,a2,n2,c2,d2,m2,e2,b3,a3,n3,c3,d3,m3,e3,b4,a4,n4,c4,d4,m4,e4,h0,h1,h2,h3,h4⟩:=h
 exact⟨b1,a1,n1,c1,d1,m1,e1,b2,a2,n2,c2,d2,m2,e2,b3,a3,n3,c3,d3,m3,e3,b4,a4,n4,c4,d4,m4,e4,h0,h1.below hb,h2.below hb,h3.below hb,h4.below hb⟩
def xE (w:World) (p an s c:Rat) (e:Ending) (w':World):Prop:=∃v,e= .returned v/\Orb w' v p an s c/\Below w.heap.size w w'
theorem j7:Ty Tryz.prog 187 12 [.bool false,.slice none 0 0,.slice none 0 0,.bool false,.slice none 0 0,.slice none 0 0,.bool false,.slice none 0 0,.slice none 0 0,.bool false,.slice none 0 0,.slice none 0 0]:=⟨⟨_,Tryz.underlying187,rfl⟩,Ic,BV⟩
theorem rC:Ty Tryz.prog 125 5 [iv 0,iv 0,iv 0,iv 0,iv 0]:=⟨⟨_,Tryz.underlying125,rfl⟩,Gl,xg⟩
theorem mn:Ty Tryz.prog 182 5 [iv 0,iv 0,iv 0,iv 0,iv 0]:=⟨⟨_,Tryz.underlying182,rfl⟩,DW,t8⟩
theorem nW:(Tryz.prog.info? 34).map (·.size)=some 1:=by kernel_rfl
theorem pA {w:World} {g o:Nat} {cs:List Value} {v:Value} (h:Blk w g cs) (hv:cs[o]?=some v):(Instr.loadAt 34 (.pointer (some ⟨g,o,none⟩))).run Tryz.prog w= .ok v w:=nN h hv Tryz.underlying34 rfl
theorem jJ {w:World} {g o:Nat} {cs vs:List Value} (h:Blk w g cs) (hv:(cs.drop o).take 3=vs) (hl:vs.length=3):(Instr.loadAt 33 (.pointer (some ⟨g,o,none⟩))).run Tryz.prog w= .ok (.agg vs.toArray) w:=pY h hv hl Tryz.underlying33 rfl di
theorem li:(Tryz.prog.info? 57).map (·.size)=some 8:=by kernel_rfl
theorem qv:(Tryz.prog.info? 57).bind (·.zero)=some (.agg #[iv 0,iv 0,.bool false,.slice none 0 0,.slice none 0 0,.bool false,.slice none 0 0,.slice none 0 0]):=by kernel_rfl
theorem GV {w:World} {g o:Nat} {cs vs:List Value} (h:Blk w g cs) (hv:(cs.drop o).take 8=vs) (hl:vs.length=8):(Instr.loadAt 57 (.pointer (some ⟨g,o,none⟩))).run Tryz.prog w= .ok (.agg vs.toArray) w:=pY h hv hl Tryz.underlying57 rfl li
theorem Ea {w:World} {g o p:Nat} (hp:o+0=p):(Instr.fieldAt 57 (.pointer (some ⟨g,o,none⟩)) 0).run Tryz.prog w= .ok (.pointer (some ⟨g,p,none⟩)) w:=aQ Tryz.underlying57 rfl rfl cE rfl p hp
theorem vJ {w:World} {g o p:Nat} (hp:o+1=p):(Instr.fieldAt 57 (.pointer (some ⟨g,o,none⟩)) 1).run Tryz.prog w= .ok (.pointer (some ⟨g,p,none⟩)) w:=aQ Tryz.underlying57 rfl rfl cE rfl p hp
theorem pU {w:World} {g o p:Nat} (hp:o+5=p):(Instr.fieldAt 57 (.pointer (some ⟨g,o,none⟩)) 3).run Tryz.prog w= .ok (.pointer (some ⟨g,p,none⟩)) w:=aQ Tryz.underlying57 rfl rfl di rfl p hp
theorem Ke:(Tryz.prog.info? 36).map (·.size)=some 12:=by kernel_rfl
theorem qm:(Tryz.prog.info? 36).bind (·.zero)=some (.agg #[iv 0,iv 0,.bool false,.slice none 0 0,.slice none 0 0,.bool false,.slice none 0 0,.slice none 0 0,.bool false,.slice none 0 0,.slice none 0 0,.slice none 0 0]):=by kernel_rfl
theorem Db {w:World} {g o p:Nat} (hp:o+0=p):(Instr.fieldAt 36 (.pointer (some ⟨g,o,none⟩)) 0).run Tryz.prog w= .ok (.pointer (some ⟨g,p,none⟩)) w:=aQ Tryz.underlying36 rfl rfl dV rfl p hp
theorem CM {w:World} {g o p:Nat} (hp:o+1=p):(Instr.fieldAt 36 (.pointer (some ⟨g,o,none⟩)) 1).run Tryz.prog w= .ok (.pointer (some ⟨g,p,none⟩)) w:=aQ Tryz.underlying36 rfl rfl cE rfl p hp
theorem CW {w:World} {g o p:Nat} (hp:o+2=p):(Instr.fieldAt 36 (.pointer (some ⟨g,o,none⟩)) 2).run Tryz.prog w= .ok (.pointer (some ⟨g,p,none⟩)) w:=aQ Tryz.underlying36 rfl rfl di rfl p hp
theorem Ed {w:World} {g o p:Nat} (hp:o+5=p):(Instr.fieldAt 36 (.pointer (some ⟨g,o,none⟩)) 3).run Tryz.prog w= .ok (.pointer (some ⟨g,p,none⟩)) w:=aQ Tryz.underlying36 rfl rfl di rfl p hp
theorem C5 {w:World} {g o p:Nat} (hp:o+8=p):(Instr.fieldAt 36 (.pointer (some ⟨g,o,none⟩)) 4).run Tryz.prog w= .ok (.pointer (some ⟨g,p,none⟩)) w:=aQ Tryz.underlying36 rfl rfl di rfl p hp
theorem p7 {w:World} {g o p:Nat} (hp:o+11=p):(Instr.fieldAt 36 (.pointer (some ⟨g,o,none⟩)) 5).run Tryz.prog w= .ok (.pointer (some ⟨g,p,none⟩)) w:=aQ Tryz.underlying36 rfl rfl nW rfl p hp
theorem iE {place:Nat->Option (Nat×Nat)} {cells:Array Value} {i off:Nat} {x:Value} {rest:List (Nat×Value)} (hx:x.cells=#[x]) (hp:place i=some (off,1)) (hc:off+1<=cells.size):
 Instr.fill place cells ((i,x)::rest)=Instr.fill place (cells.setIfInBounds off x) rest:=by
 conv=>lhs;unfold Instr.fill
 rw[hp]
 simp only [hx]
 rw[if_neg (by simp;omega)]
 have h2:∀f:Array Value->Value×Nat->Array Value,Array.foldl f cells #[x].zipIdx =f cells (x,0):=fun f=>rfl
 rw[h2]
 rfl
theorem DN (z00:Int) (w:World):(Instr.build 57 #[(0,iv z00)]).run Tryz.prog w= .ok (.agg #[iv z00,iv 0,.bool false,.slice none 0 0,.slice none 0 0,.bool false,.slice none 0 0,.slice none 0 0]) w:=by
 have hz:=bO qv w
 have h_Rat:∀w,(sizeOf 33).run Tryz.prog w= .ok 3 w:=fun w=>aH di w
 have h_int:∀w,(sizeOf 3).run Tryz.prog w= .ok 1 w:=fun w=>aH cE w
 simp only [Instr.build,Sem.run_bind,hz,Result.andThen_ok,run_underlying Tryz.underlying57,List.mapM_toArray,List.mapM_cons,List.mapM_nil,Sem.run_map,h_Rat,h_int,Sem.run_pure]
 rw[show(Value.agg #[Value.int .i64 0,Value.int .i64 0,Value.bool false,Value.slice none 0 0,Value.slice none 0 0,Value.bool false,Value.slice none 0 0,Value.slice none 0 0]).cells =#[Value.int .i64 0,Value.int .i64 0,Value.bool false,Value.slice none 0 0,Value.slice none 0 0,Value.bool false,Value.slice none 0 0,Value.slice none 0 0] from rfl]
 rw[iE (off:=0) rfl rfl (by simp)]
 simp only [List.setIfInBounds_toArray,List.set_cons_zero]
 rfl
theorem nG (z00:Int) (z10:Int) (w:World):(Instr.build 57 #[(0,iv z00),(1,iv z10)]).run Tryz.prog w= .ok (.agg #[iv z00,iv z10,.bool false,.slice none 0 0,.slice none 0 0,.bool false,.slice none 0 0,.slice none 0 0]) w:=by
 have hz:=bO qv w
 have h_Rat:∀w,(sizeOf 33).run Tryz.prog w= .ok 3 w:=fun w=>aH di w
 have h_int:∀w,(sizeOf 3).run Tryz.prog w= .ok 1 w:=fun w=>aH cE w
 simp only [Instr.build,Sem.run_bind,hz,Result.andThen_ok,run_underlying Tryz.underlying57,List.mapM_toArray,List.mapM_cons,List.mapM_nil,Sem.run_map,h_Rat,h_int,Sem.run_pure]
 rw[show(Value.agg #[Value.int .i64 0,Value.int .i64 0,Value.bool false,Value.slice none 0 0,Value.slice none 0 0,Value.bool false,Value.slice none 0 0,Value.slice none 0 0]).cells =#[Value.int .i64 0,Value.int .i64 0,Value.bool false,Value.slice none 0 0,Value.slice none 0 0,Value.bool false,Value.slice none 0 0,Value.slice none 0 0] from rfl]
 rw[iE (off:=0) rfl rfl (by simp),iE (off:=1) rfl rfl (by simp)]
 simp only [List.setIfInBounds_toArray,List.set_cons_zero,List.set_cons_succ]
 rfl
theorem wA (z00:Int) (z10:Int) (b20:Bool) (a21:Option Addr) (n21 c21:Nat) (a22:Option Addr) (n22 c22:Nat) (b30:Bool) (a31:Option Addr) (n31 c31:Nat) (a32:Option Addr) (n32 c32:Nat) (w:World):(Instr.build 57 #[(0,iv z00),(1,iv z10),(2,.agg #[.bool b20,.slice a21 n21 c21,.slice a22 n22 c22]),(3,.agg #[.bool b30,.slice a31 n31 c31,.slice a32 n32 c32])]).run Tryz.prog w= .ok (.agg #[iv z00,iv z10,.bool b20,.slice a21 n21 c21,.slice a22 n22 c22,.bool b30,.slice a31 n31 c31,.slice a32 n32 c32]) w:=by
 have hz:=bO qv w
 have h_Rat:∀w,(sizeOf 33).run Tryz.prog w= .ok 3 w:=fun w=>aH di w
 have h_int:∀w,(sizeOf 3).run Tryz.prog w= .ok 1 w:=fun w=>aH cE w
 simp only [Instr.build,Sem.run_bind,hz,Result.andThen_ok,run_underlying Tryz.underlying57,List.mapM_toArray,List.mapM_cons,List.mapM_nil,Sem.run_map,h_Rat,h_int,Sem.run_pure]
 rw[show(Value.agg #[Value.int .i64 0,Value.int .i64 0,Value.bool false,Value.slice none 0 0,Value.slice none 0 0,Value.bool false,Value.slice none 0 0,Value.slice none 0 0]).cells =#[Value.int .i64 0,Value.int .i64 0,Value.bool false,Value.slice none 0 0,Value.slice none 0 0,Value.bool false,Value.slice none 0 0,Value.slice none 0 0] from rfl]
 rw[iE (off:=0) rfl rfl (by simp),iE (off:=1) rfl rfl (by simp),jy (off:=2) rfl (by simp),jy (off:=5) rfl (by simp)]
 simp only [List.setIfInBounds_toArray,List.set_cons_zero,List.set_cons_succ,Nat.reduceAdd]
 rfl
theorem FM (w:World):(Instr.build 36 #[]).run Tryz.prog w= .ok (.agg #[iv 0,iv 0,.bool false,.slice none 0 0,.slice none 0 0,.bool false,.slice none 0 0,.slice none 0 0,.bool false,.slice none 0 0,.slice none 0 0,.slice none 0 0]) w:=by
 have hz:=bO qm w
 have h_APts:∀w,(sizeOf 34).run Tryz.prog w= .ok 1 w:=fun w=>aH nW w
 have h_Rat:∀w,(sizeOf 33).run Tryz.prog w= .ok 3 w:=fun w=>aH di w
 have h_int:∀w,(sizeOf 3).run Tryz.prog w= .ok 1 w:=fun w=>aH cE w
 have h_i64:∀w,(sizeOf 2).run Tryz.prog w= .ok 1 w:=fun w=>aH dV w
 simp only [Instr.build,Sem.run_bind,hz,Result.andThen_ok,run_underlying Tryz.underlying36,List.mapM_toArray,List.mapM_cons,List.mapM_nil,Sem.run_map,h_APts,h_Rat,h_int,h_i64,Sem.run_pure]
 rfl
theorem Dr (a50:Option Addr) (n50 c50:Nat) (w:World):(Instr.build 36 #[(5,.slice a50 n50 c50)]).run Tryz.prog w= .ok (.agg #[iv 0,iv 0,.bool false,.slice none 0 0,.slice none 0 0,.bool false,.slice none 0 0,.slice none 0 0,.bool false,.slice none 0 0,.slice none 0 0,.slice a50 n50 c50]) w:=by
 have hz:=bO qm w
 have h_APts:∀w,(sizeOf 34).run Tryz.prog w= .ok 1 w:=fun w=>aH nW w
 have h_Rat:∀w,(sizeOf 33).run Tryz.prog w= .ok 3 w:=fun w=>aH di w
 have h_int:∀w,(sizeOf 3).run Tryz.prog w= .ok 1 w:=fun w=>aH cE w
 have h_i64:∀w,(sizeOf 2).run Tryz.prog w= .ok 1 w:=fun w=>aH dV w
 simp only [Instr.build,Sem.run_bind,hz,Result.andThen_ok,run_underlying Tryz.underlying36,List.mapM_toArray,List.mapM_cons,List.mapM_nil,Sem.run_map,h_APts,h_Rat,h_int,h_i64,Sem.run_pure]
 rw[show(Value.agg #[Value.int .i64 0,Value.int .i64 0,Value.bool false,Value.slice none 0 0,Value.slice none 0 0,Value.bool false,Value.slice none 0 0,Value.slice none 0 0,Value.bool false,Value.slice none 0 0,Value.slice none 0 0,Value.slice none 0 0]).cells =#[Value.int .i64 0,Value.int .i64 0,Value.bool false,Value.slice none 0 0,Value.slice none 0 0,Value.bool false,Value.slice none 0 0,Value.slice none 0 0,Value.bool false,Value.slice none 0 0,Value.slice none 0 0,Value.slice none 0 0] from rfl]
 rw[iE (off:=11) rfl rfl (by simp)]
 simp only [List.setIfInBounds_toArray,List.set_cons_zero,List.set_cons_succ]
 rfl
theorem th (z00:Int) (z10:Int) (b20:Bool) (a21:Option Addr) (n21 c21:Nat) (a22:Option Addr) (n22 c22:Nat) (b30:Bool) (a31:Option Addr) (n31 c31:Nat) (a32:Option Addr) (n32 c32:Nat) (b40:Bool) (a41:Option Addr) (n41 c41:Nat) (a42:Option Addr) (n42 c42:Nat) (a50:Option Addr) (n50 c50:Nat) (w:World):(Instr.build 36 #[(0,iv z00),(1,iv z10),(2,.agg #[.bool b20,.slice a21 n21 c21,.slice a22 n22 c22]),(3,.agg #[.bool b30,.slice a31 n31 c31,.slice a32 n32 c32]),(4,.agg #[.bool b40,.slice a41 n41 c41,.slice a42 n42 c42]),(5,.slice a50 n50 c50)]).run Tryz.prog w= .ok (.agg #[iv z00,iv z10,.bool b20,.slice a21 n21 c21,.slice a22 n22 c22,.bool b30,.slice a31 n31 c31,.slice a32 n32 c32,.bool b40,.slice a41 n41 c41,.slice a42 n42 c42,.slice a50 n50 c50]) w:=by
 have hz:=bO qm w
 have h_APts:∀w,(sizeOf 34).run Tryz.prog w= .ok 1 w:=fun w=>aH nW w
 have h_Rat:∀w,(sizeOf 33).run Tryz.prog w= .ok 3 w:=fun w=>aH di w
 have h_int:∀w,(sizeOf 3).run Tryz.prog w= .ok 1 w:=fun w=>aH cE w
 have h_i64:∀w,(sizeOf 2).run Tryz.prog w= .ok 1 w:=fun w=>aH dV w
 simp only [Instr.build,Sem.run_bind,hz,Result.andThen_ok,run_underlying Tryz.underlying36,List.mapM_toArray,List.mapM_cons,List.mapM_nil,Sem.run_map,h_APts,h_Rat,h_int,h_i64,Sem.run_pure]
 rw[show(Value.agg #[Value.int .i64 0,Value.int .i64 0,Value.bool false,Value.slice none 0 0,Value.slice none 0 0,Value.bool false,Value.slice none 0 0,Value.slice none 0 0,Value.bool false,Value.slice none 0 0,Value.slice none 0 0,Value.slice none 0 0]).cells =#[Value.int .i64 0,Value.int .i64 0,Value.bool false,Value.slice none 0 0,Value.slice none 0 0,Value.bool false,Value.slice none 0 0,Value.slice none 0 0,Value.bool false,Value.slice none 0 0,Value.slice none 0 0,Value.slice none 0 0] from rfl]
 rw[iE (off:=0) rfl rfl (by simp),iE (off:=1) rfl rfl (by simp),jy (off:=2) rfl (by simp),jy (off:=5) rfl (by simp),jy (off:=8) rfl (by simp),iE (off:=11) rfl rfl (by simp)]
 simp only [List.setIfInBounds_toArray,List.set_cons_zero,List.set_cons_succ,Nat.reduceAdd]
 rfl
theorem ij:Ty Tryz.prog 57 8 [iv 0,iv 0,.bool false,.slice none 0 0,.slice none 0 0,.bool false,.slice none 0 0,.slice none 0 0]:=⟨⟨_,Tryz.underlying57,rfl⟩,li,qv⟩
theorem dK:Ty Tryz.prog 36 12 [iv 0,iv 0,.bool false,.slice none 0 0,.slice none 0 0,.bool false,.slice none 0 0,.slice none 0 0,.bool false,.slice none 0 0,.slice none 0 0,.slice none 0 0]:=⟨⟨_,Tryz.underlying36,rfl⟩,Ke,qm⟩
end Go.Proofs.YtgdpkknapcgcbaaGreatDoor
