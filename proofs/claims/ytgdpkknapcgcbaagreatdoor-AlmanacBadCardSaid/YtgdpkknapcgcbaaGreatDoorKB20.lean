import Derived.Test.YtgdpkknapcgcbaaGreatDoorKB15
import Derived.Laws.StructEq
namespace Go.Proofs.YtgdpkknapcgcbaaGreatDoor
open Go.RowKit
set_option maxRecDepth 100000
set_option linter.unusedVariables false
set_option maxHeartbeats 8000000
theorem j9 {a:Act} {i j k l:Nat} {x y z u:Operand} {p q r s:Value} (h:a.eval x=p) (h2:a.eval y=q) (h3:a.eval z=r) (h4:a.eval u=s):(#[(i,x),(j,y),(k,z),(l,u)].map fun(p:Nat×Operand)=>(p.1,a.eval p.2))=#[(i,p),(j,q),(k,r),(l,s)]:=by simp[h,h2,h3,h4]
theorem uC {a:Act} {i j k l m:Nat} {x y z u v:Operand} {p q r s t:Value} (h:a.eval x=p) (h2:a.eval y=q) (h3:a.eval z=r) (h4:a.eval u=s) (h5:a.eval v=t):(#[(i,x),(j,y),(k,z),(l,u),(m,v)].map fun(p:Nat×Operand)=>(p.1,a.eval p.2))=#[(i,p),(j,q),(k,r),(l,s),(m,t)]:=by simp[h,h2,h3,h4,h5]
theorem DI:(Tryz.prog.info? 187).map (·.size)=some 12:=by kernel_rfl
theorem wn:(Tryz.prog.info? 187).bind (·.zero)=some (.agg #[.bool false,.slice none 0 0,.slice none 0 0,.bool false,.slice none 0 0,.slice none 0 0,.bool false,.slice none 0 0,.slice none 0 0,.bool false,.slice none 0 0,.slice none 0 0]):=by kernel_rfl
theorem zf {w:World} {g o p:Nat} (hp:o+0=p):(Instr.fieldAt 187 (.pointer (some ⟨g,o,none⟩)) 0).run Tryz.prog w= .ok (.pointer (some ⟨g,p,none⟩)) w:=a8 Tryz.underlying187 rfl rfl cD rfl p hp
theorem yY {w:World} {g o p:Nat} (hp:o+3=p):(Instr.fieldAt 187 (.pointer (some ⟨g,o,none⟩)) 1).run Tryz.prog w= .ok (.pointer (some ⟨g,p,none⟩)) w:=a8 Tryz.underlying187 rfl rfl cD rfl p hp
theorem rU {w:World} {g o p:Nat} (hp:o+6=p):(Instr.fieldAt 187 (.pointer (some ⟨g,o,none⟩)) 2).run Tryz.prog w= .ok (.pointer (some ⟨g,p,none⟩)) w:=a8 Tryz.underlying187 rfl rfl cD rfl p hp
theorem yb {w:World} {g o p:Nat} (hp:o+9=p):(Instr.fieldAt 187 (.pointer (some ⟨g,o,none⟩)) 3).run Tryz.prog w= .ok (.pointer (some ⟨g,p,none⟩)) w:=a8 Tryz.underlying187 rfl rfl cD rfl p hp
theorem ip {place:Nat->Option (Nat×Nat)} {cells:Array Value} {i off:Nat} {x y z:Value} {rest:List (Nat×Value)} (hp:place i=some (off,3)) (hc:off+3<=cells.size):
 Instr.fill place cells ((i,.agg #[x,y,z])::rest)=Instr.fill place (((cells.setIfInBounds off x).setIfInBounds (off+1) y).setIfInBounds (off+2) z) rest:=by
 conv=>lhs;unfold Instr.fill
 rw[hp]
 have h1:(Value.agg #[x,y,z]).cells =#[x,y,z]:=rfl
 simp only [h1]
 rw[if_neg (by simp;omega)]
 have h2:∀f:Array Value->Value×Nat->Array Value,Array.foldl f cells #[x,y,z].zipIdx =f (f (f cells (x,0)) (y,1)) (z,2):=fun f=>rfl
 rw[h2]
 rfl
theorem mr (b00:Bool) (a01:Option Addr) (n01 c01:Nat) (a02:Option Addr) (n02 c02:Nat) (b10:Bool) (a11:Option Addr) (n11 c11:Nat) (a12:Option Addr) (n12 c12:Nat) (b20:Bool) (a21:Option Addr) (n21 c21:Nat) (a22:Option Addr) (n22 c22:Nat) (b30:Bool) (a31:Option Addr) (n31 c31:Nat) (a32:Option Addr) (n32 c32:Nat) (w:World):(Instr.build 187 #[(0,.agg #[.bool b00,.slice a01 n01 c01,.slice a02 n02 c02]),(1,.agg #[.bool b10,.slice a11 n11 c11,.slice a12 n12 c12]),(2,.agg #[.bool b20,.slice a21 n21 c21,.slice a22 n22 c22]),(3,.agg #[.bool b30,.slice a31 n31 c31,.slice a32 n32 c32])]).run Tryz.prog w= .ok (.agg #[.bool b00,.slice a01 n01 c01,.slice a02 n02 c02,.bool b10,.slice a11 n11 c11,.slice a12 n12 c12,.bool b20,.slice a21 n21 c21,.slice a22 n22 c22,.bool b30,.slice a31 n31 c31,.slice a32 n32 c32]) w:=by
 have hz:=bW wn w
 have h_Rat:∀w,(sizeOf 33).run Tryz.prog w= .ok 3 w:=fun w=>aL cD w
 simp only [Instr.build,Sem.run_bind,hz,Result.andThen_ok,run_underlying Tryz.underlying187,List.mapM_toArray,List.mapM_cons,List.mapM_nil,Sem.run_map,h_Rat,Sem.run_pure]
 rw[show(Value.agg #[Value.bool false,Value.slice none 0 0,Value.slice none 0 0,Value.bool false,Value.slice none 0 0,Value.slice none 0 0,Value.bool false,Value.slice none 0 0,Value.slice none 0 0,Value.bool false,Value.slice none 0 0,Value.slice none 0 0]).cells =#[Value.bool false,Value.slice none 0 0,Value.slice none 0 0,Value.bool false,Value.slice none 0 0,Value.slice none 0 0,Value.bool false,Value.slice none 0 0,Value.slice none 0 0,Value.bool false,Value.slice none 0 0,Value.slice none 0 0] from rfl]
 rw[ip (off:=0) rfl (by simp),ip (off:=3) rfl (by simp),ip (off:=6) rfl (by simp),ip (off:=9) rfl (by simp)]
 simp only [List.setIfInBounds_toArray,List.set_cons_zero,List.set_cons_succ,Nat.reduceAdd,Nat.zero_add]
 rfl
theorem BZ:(Tryz.prog.info? 125).map (·.size)=some 5:=by kernel_rfl
theorem tg:(Tryz.prog.info? 125).bind (·.zero)=some (.agg #[iv 0,iv 0,iv 0,iv 0,iv 0]):=by kernel_rfl
theorem p9 (z00:Int) (z10:Int) (z20:Int) (z30:Int) (z40:Int) (w:World):(Instr.build 125 #[(0,iv z00),(1,iv z10),(2,iv z20),(3,iv z30),(4,iv z40)]).run Tryz.prog w= .ok (.agg #[iv z00,iv z10,iv z20,iv z30,iv z40]) w:=by
 have hz:=bW tg w
 have h_int:∀w,(sizeOf 3).run Tryz.prog w= .ok 1 w:=fun w=>aL dG w
 simp only [Instr.build,Sem.run_bind,hz,Result.andThen_ok,run_underlying Tryz.underlying125,List.mapM_toArray,List.mapM_cons,List.mapM_nil,Sem.run_map,h_int,Sem.run_pure]
 rfl
theorem xQ (zx0:Int) (zx1:Int) (zx2:Int) (zx3:Int) (zx4:Int) (w:World):(Instr.field 125 (.agg #[iv zx0,iv zx1,iv zx2,iv zx3,iv zx4]) 2).run Tryz.prog w= .ok (iv zx2) w:=by
 have ha:(isAgg 3).run Tryz.prog w= .ok false w:=by
  unfold isAgg
  rw[Sem.run_bind,run_underlying Tryz.underlying3 w]
  rfl
 simp only [Instr.field,Sem.run_bind,run_underlying Tryz.underlying125,Result.andThen_ok]
 show((part 3 #[iv zx0,iv zx1,iv zx2,iv zx3,iv zx4] 2).run Tryz.prog w)=_
 simp only [part,Sem.run_bind,ha,Result.andThen_ok]
 rfl
theorem wM (zx0:Int) (zx1:Int) (zx2:Int) (zx3:Int) (zx4:Int) (w:World):(Instr.field 125 (.agg #[iv zx0,iv zx1,iv zx2,iv zx3,iv zx4]) 3).run Tryz.prog w= .ok (iv zx3) w:=by
 have ha:(isAgg 3).run Tryz.prog w= .ok false w:=by
  unfold isAgg
  rw[Sem.run_bind,run_underlying Tryz.underlying3 w]
  rfl
 simp only [Instr.field,Sem.run_bind,run_underlying Tryz.underlying125,Result.andThen_ok]
 show((part 3 #[iv zx0,iv zx1,iv zx2,iv zx3,iv zx4] 3).run Tryz.prog w)=_
 simp only [part,Sem.run_bind,ha,Result.andThen_ok]
 rfl
theorem wR (zx0:Int) (zx1:Int) (zx2:Int) (zx3:Int) (zx4:Int) (w:World):(Instr.field 125 (.agg #[iv zx0,iv zx1,iv zx2,iv zx3,iv zx4]) 4).run Tryz.prog w= .ok (iv zx4) w:=by
 have ha:(isAgg 3).run Tryz.prog w= .ok false w:=by
  unfold isAgg
  rw[Sem.run_bind,run_underlying Tryz.underlying3 w]
  rfl
 simp only [Instr.field,Sem.run_bind,run_underlying Tryz.underlying125,Result.andThen_ok]
 show((part 3 #[iv zx0,iv zx1,iv zx2,iv zx3,iv zx4] 4).run Tryz.prog w)=_
 simp only [part,Sem.run_bind,ha,Result.andThen_ok]
 rfl
def Orb (w:World) (v:Value) (p an s c:Rat):Prop:=
 ∃b1 a1 n1 c1 d1 m1 e1 b2 a2 n2 c2 d2 m2 e2 b3 a3 n3 c3 d3 m3 e3 b4 a4 n4 c4 d4 m4 e4,v= .agg #[.bool b1,.slice a1 n1 c1,.slice d1 m1 e1,.bool b2,.slice a2 n2 c2,.slice d2 m2 e2,.bool b3,.slice a3 n3 c3,.slice d3 m3 e3,.bool b4,.slice a4 n4 c4,.slice d4 m4 e4]/\
  Rq w (.agg #[.bool b1,.slice a1 n1 c1,.slice d1 m1 e1]) p/\Rq w (.agg #[.bool b2,.slice a2 n2 c2,.slice d2 m2 e2]) an/\Rq w (.agg #[.bool b3,.slice a3 n3 c3,.slice d3 m3 e3]) s/\Rq w (.agg #[.bool b4,.slice a4 n4 c4,.slice d4 m4 e4]) c
theorem Orb.below {w w':World} {v:Value} {p an s c:Rat} (h:Orb w v p an s c) (hb:Below w.heap.size w w'):Orb w' v p an s c:=by
 obtain⟨b1,a1,n1,c1,d1,m1,e1,b2,a2,n2,c2,d2,m2,e2,b3,a3,n3,c3,d3,m3,e3,b4,a4,n4,c4,d4,m4,e4,h0,h1,h2,h3,h4⟩:=h
 exact⟨b1,a1,n1,c1,d1,m1,e1,b2,a2,n2,c2,d2,m2,e2,b3,a3,n3,c3,d3,m3,e3,b4,a4,n4,c4,d4,m4,e4,h0,h1.below hb,h2.below hb,h3.below hb,h4.below hb⟩
def ua (w:World) (p an s c:Rat) (e:Ending) (w':World):Prop:=∃v,e= .returned v/\Orb w' v p an s c/\Below w.heap.size w w'
theorem iA:Ty Tryz.prog 187 12 [.bool false,.slice none 0 0,.slice none 0 0,.bool false,.slice none 0 0,.slice none 0 0,.bool false,.slice none 0 0,.slice none 0 0,.bool false,.slice none 0 0,.slice none 0 0]:=⟨⟨_,Tryz.underlying187,rfl⟩,DI,wn⟩
theorem pu:Ty Tryz.prog 125 5 [iv 0,iv 0,iv 0,iv 0,iv 0]:=⟨⟨_,Tryz.underlying125,rfl⟩,BZ,tg⟩
theorem lS:(Tryz.prog.info? 34).map (·.size)=some 1:=by kernel_rfl
theorem gH {w:World} {g o:Nat} {cs:List Value} {v:Value} (h:Blk w g cs) (hv:cs[o]?=some v):(Instr.loadAt 34 (.pointer (some ⟨g,o,none⟩))).run Tryz.prog w= .ok v w:=ld h hv Tryz.underlying34 rfl
theorem bU {w:World} {g o:Nat} {cs vs:List Value} (h:Blk w g cs) (hv:(cs.drop o).take 3=vs) (hl:vs.length=3):(Instr.loadAt 33 (.pointer (some ⟨g,o,none⟩))).run Tryz.prog w= .ok (.agg vs.toArray) w:=mN h hv hl Tryz.underlying33 rfl cD
theorem jF:(Tryz.prog.info? 57).map (·.size)=some 8:=by kernel_rfl
theorem nJ:(Tryz.prog.info? 57).bind (·.zero)=some (.agg #[iv 0,iv 0,.bool false,.slice none 0 0,.slice none 0 0,.bool false,.slice none 0 0,.slice none 0 0]):=by kernel_rfl
theorem pv {w:World} {g o:Nat} {cs vs:List Value} (h:Blk w g cs) (hv:(cs.drop o).take 8=vs) (hl:vs.length=8):(Instr.loadAt 57 (.pointer (some ⟨g,o,none⟩))).run Tryz.prog w= .ok (.agg vs.toArray) w:=mN h hv hl Tryz.underlying57 rfl jF
theorem qR {w:World} {g o p:Nat} (hp:o+0=p):(Instr.fieldAt 57 (.pointer (some ⟨g,o,none⟩)) 0).run Tryz.prog w= .ok (.pointer (some ⟨g,p,none⟩)) w:=a8 Tryz.underlying57 rfl rfl dG rfl p hp
theorem gO {w:World} {g o p:Nat} (hp:o+1=p):(Instr.fieldAt 57 (.pointer (some ⟨g,o,none⟩)) 1).run Tryz.prog w= .ok (.pointer (some ⟨g,p,none⟩)) w:=a8 Tryz.underlying57 rfl rfl dG rfl p hp
theorem iW {w:World} {g o p:Nat} (hp:o+2=p):(Instr.fieldAt 57 (.pointer (some ⟨g,o,none⟩)) 2).run Tryz.prog w= .ok (.pointer (some ⟨g,p,none⟩)) w:=a8 Tryz.underlying57 rfl rfl cD rfl p hp
theorem fp {w:World} {g o p:Nat} (hp:o+5=p):(Instr.fieldAt 57 (.pointer (some ⟨g,o,none⟩)) 3).run Tryz.prog w= .ok (.pointer (some ⟨g,p,none⟩)) w:=a8 Tryz.underlying57 rfl rfl cD rfl p hp
theorem D5:(Tryz.prog.info? 36).map (·.size)=some 12:=by kernel_rfl
theorem nH:(Tryz.prog.info? 36).bind (·.zero)=some (.agg #[iv 0,iv 0,.bool false,.slice none 0 0,.slice none 0 0,.bool false,.slice none 0 0,.slice none 0 0,.bool false,.slice none 0 0,.slice none 0 0,.slice none 0 0]):=by kernel_rfl
theorem mV {w:World} {g o p:Nat} (hp:o+0=p):(Instr.fieldAt 36 (.pointer (some ⟨g,o,none⟩)) 0).run Tryz.prog w= .ok (.pointer (some ⟨g,p,none⟩)) w:=a8 Tryz.underlying36 rfl rfl b7 rfl p hp
theorem kB {w:World} {g o p:Nat} (hp:o+2=p):(Instr.fieldAt 36 (.pointer (some ⟨g,o,none⟩)) 2).run Tryz.prog w= .ok (.pointer (some ⟨g,p,none⟩)) w:=a8 Tryz.underlying36 rfl rfl cD rfl p hp
theorem j5 {w:World} {g o p:Nat} (hp:o+8=p):(Instr.fieldAt 36 (.pointer (some ⟨g,o,none⟩)) 4).run Tryz.prog w= .ok (.pointer (some ⟨g,p,none⟩)) w:=a8 Tryz.underlying36 rfl rfl cD rfl p hp
theorem gN {w:World} {g o p:Nat} (hp:o+11=p):(Instr.fieldAt 36 (.pointer (some ⟨g,o,none⟩)) 5).run Tryz.prog w= .ok (.pointer (some ⟨g,p,none⟩)) w:=a8 Tryz.underlying36 rfl rfl lS rfl p hp
theorem gt {place:Nat->Option (Nat×Nat)} {cells:Array Value} {i off:Nat} {x:Value} {rest:List (Nat×Value)} (hx:x.cells=#[x]) (hp:place i=some (off,1)) (hc:off+1<=cells.size):
 Instr.fill place cells ((i,x)::rest)=Instr.fill place (cells.setIfInBounds off x) rest:=by
 conv=>lhs;unfold Instr.fill
 rw[hp]
 simp only [hx]
 rw[if_neg (by simp;omega)]
 have h2:∀f:Array Value->Value×Nat->Array Value,Array.foldl f cells #[x].zipIdx =f cells (x,0):=fun f=>rfl
 rw[h2]
 rfl
theorem yj (z00:Int) (w:World):(Instr.build 57 #[(0,iv z00)]).run Tryz.prog w= .ok (.agg #[iv z00,iv 0,.bool false,.slice none 0 0,.slice none 0 0,.bool false,.slice none 0 0,.slice none 0 0]) w:=by
 have hz:=bW nJ w
 have h_Rat:∀w,(sizeOf 33).run Tryz.prog w= .ok 3 w:=fun w=>aL cD w
 have h_int:∀w,(sizeOf 3).run Tryz.prog w= .ok 1 w:=fun w=>aL dG w
 simp only [Instr.build,Sem.run_bind,hz,Result.andThen_ok,run_underlying Tryz.underlying57,List.mapM_toArray,List.mapM_cons,List.mapM_nil,Sem.run_map,h_Rat,h_int,Sem.run_pure]
 rw[show(Value.agg #[Value.int .i64 0,Value.int .i64 0,Value.bool false,Value.slice none 0 0,Value.slice none 0 0,Value.bool false,Value.slice none 0 0,Value.slice none 0 0]).cells =#[Value.int .i64 0,Value.int .i64 0,Value.bool false,Value.slice none 0 0,Value.slice none 0 0,Value.bool false,Value.slice none 0 0,Value.slice none 0 0] from rfl]
 rw[gt (off:=0) rfl rfl (by simp)]
 simp only [List.setIfInBounds_toArray,List.set_cons_zero]
 rfl
theorem lH (z00:Int) (z10:Int) (w:World):(Instr.build 57 #[(0,iv z00),(1,iv z10)]).run Tryz.prog w= .ok (.agg #[iv z00,iv z10,.bool false,.slice none 0 0,.slice none 0 0,.bool false,.slice none 0 0,.slice none 0 0]) w:=by
 have hz:=bW nJ w
 have h_Rat:∀w,(sizeOf 33).run Tryz.prog w= .ok 3 w:=fun w=>aL cD w
 have h_int:∀w,(sizeOf 3).run Tryz.prog w= .ok 1 w:=fun w=>aL dG w
 simp only [Instr.build,Sem.run_bind,hz,Result.andThen_ok,run_underlying Tryz.underlying57,List.mapM_toArray,List.mapM_cons,List.mapM_nil,Sem.run_map,h_Rat,h_int,Sem.run_pure]
 rw[show(Value.agg #[Value.int .i64 0,Value.int .i64 0,Value.bool false,Value.slice none 0 0,Value.slice none 0 0,Value.bool false,Value.slice none 0 0,Value.slice none 0 0]).cells =#[Value.int .i64 0,Value.int .i64 0,Value.bool false,Value.slice none 0 0,Value.slice none 0 0,Value.bool false,Value.slice none 0 0,Value.slice none 0 0] from rfl]
 rw[gt (off:=0) rfl rfl (by simp),gt (off:=1) rfl rfl (by simp)]
 simp only [List.setIfInBounds_toArray,List.set_cons_zero,List.set_cons_succ]
 rfl
theorem s5 (z00:Int) (z10:Int) (b20:Bool) (a21:Option Addr) (n21 c21:Nat) (a22:Option Addr) (n22 c22:Nat) (b30:Bool) (a31:Option Addr) (n31 c31:Nat) (a32:Option Addr) (n32 c32:Nat) (w:World):(Instr.build 57 #[(0,iv z00),(1,iv z10),(2,.agg #[.bool b20,.slice a21 n21 c21,.slice a22 n22 c22]),(3,.agg #[.bool b30,.slice a31 n31 c31,.slice a32 n32 c32])]).run Tryz.prog w= .ok (.agg #[iv z00,iv z10,.bool b20,.slice a21 n21 c21,.slice a22 n22 c22,.bool b30,.slice a31 n31 c31,.slice a32 n32 c32]) w:=by
 have hz:=bW nJ w
 have h_Rat:∀w,(sizeOf 33).run Tryz.prog w= .ok 3 w:=fun w=>aL cD w
 have h_int:∀w,(sizeOf 3).run Tryz.prog w= .ok 1 w:=fun w=>aL dG w
 simp only [Instr.build,Sem.run_bind,hz,Result.andThen_ok,run_underlying Tryz.underlying57,List.mapM_toArray,List.mapM_cons,List.mapM_nil,Sem.run_map,h_Rat,h_int,Sem.run_pure]
 rw[show(Value.agg #[Value.int .i64 0,Value.int .i64 0,Value.bool false,Value.slice none 0 0,Value.slice none 0 0,Value.bool false,Value.slice none 0 0,Value.slice none 0 0]).cells =#[Value.int .i64 0,Value.int .i64 0,Value.bool false,Value.slice none 0 0,Value.slice none 0 0,Value.bool false,Value.slice none 0 0,Value.slice none 0 0] from rfl]
 rw[gt (off:=0) rfl rfl (by simp),gt (off:=1) rfl rfl (by simp),ip (off:=2) rfl (by simp),ip (off:=5) rfl (by simp)]
 simp only [List.setIfInBounds_toArray,List.set_cons_zero,List.set_cons_succ,Nat.reduceAdd]
 rfl
theorem uw (w:World):(Instr.build 36 #[]).run Tryz.prog w= .ok (.agg #[iv 0,iv 0,.bool false,.slice none 0 0,.slice none 0 0,.bool false,.slice none 0 0,.slice none 0 0,.bool false,.slice none 0 0,.slice none 0 0,.slice none 0 0]) w:=by
 have hz:=bW nH w
 have h_APts:∀w,(sizeOf 34).run Tryz.prog w= .ok 1 w:=fun w=>aL lS w
 have h_Rat:∀w,(sizeOf 33).run Tryz.prog w= .ok 3 w:=fun w=>aL cD w
 have h_int:∀w,(sizeOf 3).run Tryz.prog w= .ok 1 w:=fun w=>aL dG w
 have h_i64:∀w,(sizeOf 2).run Tryz.prog w= .ok 1 w:=fun w=>aL b7 w
 simp only [Instr.build,Sem.run_bind,hz,Result.andThen_ok,run_underlying Tryz.underlying36,List.mapM_toArray,List.mapM_cons,List.mapM_nil,Sem.run_map,h_APts,h_Rat,h_int,h_i64,Sem.run_pure]
 rfl
theorem zo (a50:Option Addr) (n50 c50:Nat) (w:World):(Instr.build 36 #[(5,.slice a50 n50 c50)]).run Tryz.prog w= .ok (.agg #[iv 0,iv 0,.bool false,.slice none 0 0,.slice none 0 0,.bool false,.slice none 0 0,.slice none 0 0,.bool false,.slice none 0 0,.slice none 0 0,.slice a50 n50 c50]) w:=by
 have hz:=bW nH w
 have h_APts:∀w,(sizeOf 34).run Tryz.prog w= .ok 1 w:=fun w=>aL lS w
 have h_Rat:∀w,(sizeOf 33).run Tryz.prog w= .ok 3 w:=fun w=>aL cD w
 have h_int:∀w,(sizeOf 3).run Tryz.prog w= .ok 1 w:=fun w=>aL dG w
 have h_i64:∀w,(sizeOf 2).run Tryz.prog w= .ok 1 w:=fun w=>aL b7 w
 simp only [Instr.build,Sem.run_bind,hz,Result.andThen_ok,run_underlying Tryz.underlying36,List.mapM_toArray,List.mapM_cons,List.mapM_nil,Sem.run_map,h_APts,h_Rat,h_int,h_i64,Sem.run_pure]
 rw[show(Value.agg #[Value.int .i64 0,Value.int .i64 0,Value.bool false,Value.slice none 0 0,Value.slice none 0 0,Value.bool false,Value.slice none 0 0,Value.slice none 0 0,Value.bool false,Value.slice none 0 0,Value.slice none 0 0,Value.slice none 0 0]).cells =#[Value.int .i64 0,Value.int .i64 0,Value.bool false,Value.slice none 0 0,Value.slice none 0 0,Value.bool false,Value.slice none 0 0,Value.slice none 0 0,Value.bool false,Value.slice none 0 0,Value.slice none 0 0,Value.slice none 0 0] from rfl]
 rw[gt (off:=11) rfl rfl (by simp)]
 simp only [List.setIfInBounds_toArray,List.set_cons_zero,List.set_cons_succ]
 rfl
theorem qi (z00:Int) (z10:Int) (b20:Bool) (a21:Option Addr) (n21 c21:Nat) (a22:Option Addr) (n22 c22:Nat) (b30:Bool) (a31:Option Addr) (n31 c31:Nat) (a32:Option Addr) (n32 c32:Nat) (b40:Bool) (a41:Option Addr) (n41 c41:Nat) (a42:Option Addr) (n42 c42:Nat) (a50:Option Addr) (n50 c50:Nat) (w:World):(Instr.build 36 #[(0,iv z00),(1,iv z10),(2,.agg #[.bool b20,.slice a21 n21 c21,.slice a22 n22 c22]),(3,.agg #[.bool b30,.slice a31 n31 c31,.slice a32 n32 c32]),(4,.agg #[.bool b40,.slice a41 n41 c41,.slice a42 n42 c42]),(5,.slice a50 n50 c50)]).run Tryz.prog w= .ok (.agg #[iv z00,iv z10,.bool b20,.slice a21 n21 c21,.slice a22 n22 c22,.bool b30,.slice a31 n31 c31,.slice a32 n32 c32,.bool b40,.slice a41 n41 c41,.slice a42 n42 c42,.slice a50 n50 c50]) w:=by
 have hz:=bW nH w
 have h_APts:∀w,(sizeOf 34).run Tryz.prog w= .ok 1 w:=fun w=>aL lS w
 have h_Rat:∀w,(sizeOf 33).run Tryz.prog w= .ok 3 w:=fun w=>aL cD w
 have h_int:∀w,(sizeOf 3).run Tryz.prog w= .ok 1 w:=fun w=>aL dG w
 have h_i64:∀w,(sizeOf 2).run Tryz.prog w= .ok 1 w:=fun w=>aL b7 w
 simp only [Instr.build,Sem.run_bind,hz,Result.andThen_ok,run_underlying Tryz.underlying36,List.mapM_toArray,List.mapM_cons,List.mapM_nil,Sem.run_map,h_APts,h_Rat,h_int,h_i64,Sem.run_pure]
 rw[show(Value.agg #[Value.int .i64 0,Value.int .i64 0,Value.bool false,Value.slice none 0 0,Value.slice none 0 0,Value.bool false,Value.slice none 0 0,Value.slice none 0 0,Value.bool false,Value.slice none 0 0,Value.slice none 0 0,Value.slice none 0 0]).cells =#[Value.int .i64 0,Value.int .i64 0,Value.bool false,Value.slice none 0 0,Value.slice none 0 0,Value.bool false,Value.slice none 0 0,Value.slice none 0 0,Value.bool false,Value.slice none 0 0,Value.slice none 0 0,Value.slice none 0 0] from rfl]
 rw[gt (off:=0) rfl rfl (by simp),gt (off:=1) rfl rfl (by simp),ip (off:=2) rfl (by simp),ip (off:=5) rfl (by simp),ip (off:=8) rfl (by simp),gt (off:=11) rfl rfl (by simp)]
 simp only [List.setIfInBounds_toArray,List.set_cons_zero,List.set_cons_succ,Nat.reduceAdd]
 rfl
theorem eE:Ty Tryz.prog 57 8 [iv 0,iv 0,.bool false,.slice none 0 0,.slice none 0 0,.bool false,.slice none 0 0,.slice none 0 0]:=⟨⟨_,Tryz.underlying57,rfl⟩,jF,nJ⟩
theorem bz:Ty Tryz.prog 36 12 [iv 0,iv 0,.bool false,.slice none 0 0,.slice none 0 0,.bool false,.slice none 0 0,.slice none 0 0,.bool false,.slice none 0 0,.slice none 0 0,.slice none 0 0]:=⟨⟨_,Tryz.underlying36,rfl⟩,D5,nH⟩
end Go.Proofs.YtgdpkknapcgcbaaGreatDoor
