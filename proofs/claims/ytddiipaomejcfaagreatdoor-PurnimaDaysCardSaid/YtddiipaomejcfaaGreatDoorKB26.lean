import Derived.Test.YtddiipaomejcfaaGreatDoorKB25
import Derived.Laws.StructEq
namespace Go.Proofs.YtddiipaomejcfaaGreatDoor
open Go.RowKit
set_option maxRecDepth 100000
set_option linter.unusedVariables false
set_option maxHeartbeats 8000000
theorem pE {a:Act} {i j k l:Nat} {x y z u:Operand} {p q r s:Value} (h:a.eval x=p) (h2:a.eval y=q) (h3:a.eval z=r) (h4:a.eval u=s):(#[(i,x),(j,y),(k,z),(l,u)].map fun(p:Nat×Operand)=>(p.1,a.eval p.2))=#[(i,p),(j,q),(k,r),(l,s)]:=by simp[h,h2,h3,h4]
theorem uC {a:Act} {i j k l m:Nat} {x y z u v:Operand} {p q r s t:Value} (h:a.eval x=p) (h2:a.eval y=q) (h3:a.eval z=r) (h4:a.eval u=s) (h5:a.eval v=t):(#[(i,x),(j,y),(k,z),(l,u),(m,v)].map fun(p:Nat×Operand)=>(p.1,a.eval p.2))=#[(i,p),(j,q),(k,r),(l,s),(m,t)]:=by simp[h,h2,h3,h4,h5]
theorem Kn:(Tryz.prog.info? 176).map (·.size)=some 12:=by kernel_rfl
theorem BZ:(Tryz.prog.info? 176).bind (·.zero)=some (.agg #[.bool false,.slice none 0 0,.slice none 0 0,.bool false,.slice none 0 0,.slice none 0 0,.bool false,.slice none 0 0,.slice none 0 0,.bool false,.slice none 0 0,.slice none 0 0]):=by kernel_rfl
theorem FZ {w:World} {g o p:Nat} (hp:o+0=p):(Instr.fieldAt 176 (.pointer (some ⟨g,o,none⟩)) 0).run Tryz.prog w= .ok (.pointer (some ⟨g,p,none⟩)) w:=a8 Tryz.underlying176 rfl rfl iX rfl p hp
theorem FW {w:World} {g o p:Nat} (hp:o+3=p):(Instr.fieldAt 176 (.pointer (some ⟨g,o,none⟩)) 1).run Tryz.prog w= .ok (.pointer (some ⟨g,p,none⟩)) w:=a8 Tryz.underlying176 rfl rfl iX rfl p hp
theorem vZ {w:World} {g o p:Nat} (hp:o+6=p):(Instr.fieldAt 176 (.pointer (some ⟨g,o,none⟩)) 2).run Tryz.prog w= .ok (.pointer (some ⟨g,p,none⟩)) w:=a8 Tryz.underlying176 rfl rfl iX rfl p hp
theorem E5 {w:World} {g o p:Nat} (hp:o+9=p):(Instr.fieldAt 176 (.pointer (some ⟨g,o,none⟩)) 3).run Tryz.prog w= .ok (.pointer (some ⟨g,p,none⟩)) w:=a8 Tryz.underlying176 rfl rfl iX rfl p hp
theorem uH {place:Nat->Option (Nat×Nat)} {cells:Array Value} {i off:Nat} {x y z:Value} {rest:List (Nat×Value)} (hp:place i=some (off,3)) (hc:off+3<=cells.size):
 Instr.fill place cells ((i,.agg #[x,y,z])::rest)=Instr.fill place (((cells.setIfInBounds off x).setIfInBounds (off+1) y).setIfInBounds (off+2) z) rest:=by
 conv=>lhs;unfold Instr.fill
 rw[hp]
 have h1:(Value.agg #[x,y,z]).cells =#[x,y,z]:=rfl
 simp only [h1]
 rw[if_neg (by simp;omega)]
 have h2:∀f:Array Value->Value×Nat->Array Value,Array.foldl f cells #[x,y,z].zipIdx =f (f (f cells (x,0)) (y,1)) (z,2):=fun f=>rfl
 rw[h2]
 rfl
theorem pV (b00:Bool) (a01:Option Addr) (n01 c01:Nat) (a02:Option Addr) (n02 c02:Nat) (b10:Bool) (a11:Option Addr) (n11 c11:Nat) (a12:Option Addr) (n12 c12:Nat) (b20:Bool) (a21:Option Addr) (n21 c21:Nat) (a22:Option Addr) (n22 c22:Nat) (b30:Bool) (a31:Option Addr) (n31 c31:Nat) (a32:Option Addr) (n32 c32:Nat) (w:World):(Instr.build 176 #[(0,.agg #[.bool b00,.slice a01 n01 c01,.slice a02 n02 c02]),(1,.agg #[.bool b10,.slice a11 n11 c11,.slice a12 n12 c12]),(2,.agg #[.bool b20,.slice a21 n21 c21,.slice a22 n22 c22]),(3,.agg #[.bool b30,.slice a31 n31 c31,.slice a32 n32 c32])]).run Tryz.prog w= .ok (.agg #[.bool b00,.slice a01 n01 c01,.slice a02 n02 c02,.bool b10,.slice a11 n11 c11,.slice a12 n12 c12,.bool b20,.slice a21 n21 c21,.slice a22 n22 c22,.bool b30,.slice a31 n31 c31,.slice a32 n32 c32]) w:=by
 have hz:=cj BZ w
 have h_Rat:∀w,(sizeOf 78).run Tryz.prog w= .ok 3 w:=fun w=>aV iX w
 simp only [Instr.build,Sem.run_bind,hz,Result.andThen_ok,run_underlying Tryz.underlying176,List.mapM_toArray,List.mapM_cons,List.mapM_nil,Sem.run_map,h_Rat,Sem.run_pure]
 rw[show(Value.agg #[Value.bool false,Value.slice none 0 0,Value.slice none 0 0,Value.bool false,Value.slice none 0 0,Value.slice none 0 0,Value.bool false,Value.slice none 0 0,Value.slice none 0 0,Value.bool false,Value.slice none 0 0,Value.slice none 0 0]).cells =#[Value.bool false,Value.slice none 0 0,Value.slice none 0 0,Value.bool false,Value.slice none 0 0,Value.slice none 0 0,Value.bool false,Value.slice none 0 0,Value.slice none 0 0,Value.bool false,Value.slice none 0 0,Value.slice none 0 0] from rfl]
 rw[uH (off:=0) rfl (by simp),uH (off:=3) rfl (by simp),uH (off:=6) rfl (by simp),uH (off:=9) rfl (by simp)]
 simp only [List.setIfInBounds_toArray,List.set_cons_zero,List.set_cons_succ,Nat.reduceAdd,Nat.zero_add]
 rfl
def Orb (w:World) (v:Value) (p an s c:Rat):Prop:=
 ∃b1 a1 n1 c1 d1 m1 e1 b2 a2 n2 c2 d2 m2 e2 b3 a3 n3 c3 d3 m3 e3 b4 a4 n4 c4 d4 m4 e4,v= .agg #[.bool b1,.slice a1 n1 c1,.slice d1 m1 e1,.bool b2,.slice a2 n2 c2,.slice d2 m2 e2,.bool b3,.slice a3 n3 c3,.slice d3 m3 e3,.bool b4,.slice a4 n4 c4,.slice d4 m4 e4]/\
  Rq w (.agg #[.bool b1,.slice a1 n1 c1,.slice d1 m1 e1]) p/\Rq w (.agg #[.bool b2,.slice a2 n2 c2,.slice d2 m2 e2]) an/\Rq w (.agg #[.bool b3,.slice a3 n3 c3,.slice d3 m3 e3]) s/\Rq w (.agg #[.bool b4,.slice a4 n4 c4,.slice d4 m4 e4]) c
theorem Orb.below {w w':World} {v:Value} {p an s c:Rat} (h:Orb w v p an s c) (hb:Below w.heap.size w w'):Orb w' v p an s c:=by
 obtain⟨b1,a1,n1,c1,d1,m1,e1,b2,a2,n2,c2,d2,m2,e2,b3,a3,n3,c3,d3,m3,e3,b4,a4,n4,c4,d4,m4,e4,h0,h1,h2,h3,h4⟩:=h
 exact⟨b1,a1,n1,c1,d1,m1,e1,b2,a2,n2,c2,d2,m2,e2,b3,a3,n3,c3,d3,m3,e3,b4,a4,n4,c4,d4,m4,e4,h0,h1.below hb,h2.below hb,h3.below hb,h4.below hb⟩
def zO (w:World) (p an s c:Rat) (e:Ending) (w':World):Prop:=∃v,e= .returned v/\Orb w' v p an s c/\Below w.heap.size w w'
theorem kV:Ty Tryz.prog 176 12 [.bool false,.slice none 0 0,.slice none 0 0,.bool false,.slice none 0 0,.slice none 0 0,.bool false,.slice none 0 0,.slice none 0 0,.bool false,.slice none 0 0,.slice none 0 0]:=⟨⟨_,Tryz.underlying176,rfl⟩,Kn,BZ⟩
theorem mY {P:Program} {w:World} {d:Nat} {xs ys:Array Value} {f:Field} {fs:List Field} {s:Bool} {a b:Bool} (hn:(f.name != "_")=true) (hu:P.underlying f.type=some .bool) (h1:xs[f.offset]?=some (.bool a)) (h2:ys[f.offset]?=some (.bool b))
 (hr:(Op.eqFields (d+1) xs ys fs).run P w= .ok s w):(Op.eqFields (d+1) xs ys (f::fs)).run P w= .ok (decide (a=b) && s) w:=by
 have hn':f.name≠ "_":=by simpa using hn
 simp only [Op.eqFields,Sem.run_bind,Sem.run_ite,if_pos hn',mE hu rfl h1,mE hu rfl h2,Result.andThen_ok,run_equalIn_bool w d f.type a b hu]
 by_cases e:a=b
 ·subst e;simp[hr]
 ·simp[e]
theorem kO {w:World} {g o:Nat} {cs:List Value} {v:Value} (h:Blk w g cs) (hv:cs[o]?=some v):(Instr.loadAt 4 (.pointer (some ⟨g,o,none⟩))).run Tryz.prog w= .ok v w:=oj h hv Tryz.underlying4 rfl
theorem C9:(Tryz.prog.info? 29).map (·.size)=some 5:=by kernel_rfl
theorem rI:(Tryz.prog.info? 29).bind (·.zero)=some (.agg #[iv 0,iv 0,.bool false,iv 0,.bool false]):=by kernel_rfl
theorem I8 {w:World} {g o:Nat} {cs vs:List Value} (h:Blk w g cs) (hv:(cs.drop o).take 5=vs) (hl:vs.length=5):(Instr.loadAt 29 (.pointer (some ⟨g,o,none⟩))).run Tryz.prog w= .ok (.agg vs.toArray) w:=kJ h hv hl Tryz.underlying29 rfl C9
theorem gF {w:World} {g o p:Nat} (hp:o+0=p):(Instr.fieldAt 29 (.pointer (some ⟨g,o,none⟩)) 0).run Tryz.prog w= .ok (.pointer (some ⟨g,p,none⟩)) w:=a8 Tryz.underlying29 rfl rfl dz rfl p hp
theorem eQ {w:World} {g o p:Nat} (hp:o+1=p):(Instr.fieldAt 29 (.pointer (some ⟨g,o,none⟩)) 1).run Tryz.prog w= .ok (.pointer (some ⟨g,p,none⟩)) w:=a8 Tryz.underlying29 rfl rfl cW rfl p hp
theorem vo {w:World} {g o p:Nat} (hp:o+2=p):(Instr.fieldAt 29 (.pointer (some ⟨g,o,none⟩)) 2).run Tryz.prog w= .ok (.pointer (some ⟨g,p,none⟩)) w:=a8 Tryz.underlying29 rfl rfl ed rfl p hp
theorem eo {w:World} {g o p:Nat} (hp:o+3=p):(Instr.fieldAt 29 (.pointer (some ⟨g,o,none⟩)) 3).run Tryz.prog w= .ok (.pointer (some ⟨g,p,none⟩)) w:=a8 Tryz.underlying29 rfl rfl cW rfl p hp
theorem Fj {w:World} {g o p:Nat} (hp:o+4=p):(Instr.fieldAt 29 (.pointer (some ⟨g,o,none⟩)) 4).run Tryz.prog w= .ok (.pointer (some ⟨g,p,none⟩)) w:=a8 Tryz.underlying29 rfl rfl ed rfl p hp
theorem zz (w:World):(Instr.build 29 #[]).run Tryz.prog w= .ok (.agg #[iv 0,iv 0,.bool false,iv 0,.bool false]) w:=by
 have hz:=cj rI w
 have h_bool:∀w,(sizeOf 4).run Tryz.prog w= .ok 1 w:=fun w=>aV ed w
 have h_int:∀w,(sizeOf 3).run Tryz.prog w= .ok 1 w:=fun w=>aV cW w
 have h_i64:∀w,(sizeOf 2).run Tryz.prog w= .ok 1 w:=fun w=>aV dz w
 simp only [Instr.build,Sem.run_bind,hz,Result.andThen_ok,run_underlying Tryz.underlying29,List.mapM_toArray,List.mapM_cons,List.mapM_nil,Sem.run_map,h_bool,h_i64,h_int,Sem.run_pure]
 rfl
theorem xH (z00:Int) (z10:Int) (b20:Bool) (z30:Int) (b40:Bool) (w:World):(Instr.build 29 #[(0,iv z00),(1,iv z10),(2,.bool b20),(3,iv z30),(4,.bool b40)]).run Tryz.prog w= .ok (.agg #[iv z00,iv z10,.bool b20,iv z30,.bool b40]) w:=by
 have hz:=cj rI w
 have h_bool:∀w,(sizeOf 4).run Tryz.prog w= .ok 1 w:=fun w=>aV ed w
 have h_int:∀w,(sizeOf 3).run Tryz.prog w= .ok 1 w:=fun w=>aV cW w
 have h_i64:∀w,(sizeOf 2).run Tryz.prog w= .ok 1 w:=fun w=>aV dz w
 simp only [Instr.build,Sem.run_bind,hz,Result.andThen_ok,run_underlying Tryz.underlying29,List.mapM_toArray,List.mapM_cons,List.mapM_nil,Sem.run_map,h_bool,h_i64,h_int,Sem.run_pure]
 rfl
theorem J0:(Tryz.prog.info? 40).map (·.size)=some 5:=by kernel_rfl
theorem CC:(Tryz.prog.info? 40).bind (·.zero)=some (.agg #[iv 0,iv 0,.bool false,iv 0,.bool false]):=by kernel_rfl
theorem xE {w:World} {g o p:Nat} (hp:o+0=p):(Instr.fieldAt 40 (.pointer (some ⟨g,o,none⟩)) 0).run Tryz.prog w= .ok (.pointer (some ⟨g,p,none⟩)) w:=a8 Tryz.underlying40 rfl rfl cW rfl p hp
theorem qq {w:World} {g o p:Nat} (hp:o+1=p):(Instr.fieldAt 40 (.pointer (some ⟨g,o,none⟩)) 1).run Tryz.prog w= .ok (.pointer (some ⟨g,p,none⟩)) w:=a8 Tryz.underlying40 rfl rfl cW rfl p hp
theorem wU {w:World} {g o p:Nat} (hp:o+2=p):(Instr.fieldAt 40 (.pointer (some ⟨g,o,none⟩)) 2).run Tryz.prog w= .ok (.pointer (some ⟨g,p,none⟩)) w:=a8 Tryz.underlying40 rfl rfl ed rfl p hp
theorem iq {w:World} {g o p:Nat} (hp:o+3=p):(Instr.fieldAt 40 (.pointer (some ⟨g,o,none⟩)) 3).run Tryz.prog w= .ok (.pointer (some ⟨g,p,none⟩)) w:=a8 Tryz.underlying40 rfl rfl cW rfl p hp
theorem nQ (z00:Int) (z10:Int) (b20:Bool) (z30:Int) (b40:Bool) (w:World):(Instr.build 40 #[(0,iv z00),(1,iv z10),(2,.bool b20),(3,iv z30),(4,.bool b40)]).run Tryz.prog w= .ok (.agg #[iv z00,iv z10,.bool b20,iv z30,.bool b40]) w:=by
 have hz:=cj CC w
 have h_bool:∀w,(sizeOf 4).run Tryz.prog w= .ok 1 w:=fun w=>aV ed w
 have h_int:∀w,(sizeOf 3).run Tryz.prog w= .ok 1 w:=fun w=>aV cW w
 simp only [Instr.build,Sem.run_bind,hz,Result.andThen_ok,run_underlying Tryz.underlying40,List.mapM_toArray,List.mapM_cons,List.mapM_nil,Sem.run_map,h_bool,h_int,Sem.run_pure]
 rfl
theorem bw:Ty Tryz.prog 29 5 [iv 0,iv 0,.bool false,iv 0,.bool false]:=⟨⟨_,Tryz.underlying29,rfl⟩,C9,rI⟩
theorem vk {w:World} {op:BinOp} {x y:Operand} {xs ys:Array Value}:(eqGuard op 29 x y (.agg xs) (.agg ys)).run Tryz.prog w= .ok () w:=run_eqGuard_agg w op _ x y xs ys (by kernel_rfl)
theorem Jv (w:World) {zx0:Int} {zx1:Int} {bx2:Bool} {zx3:Int} {bx4:Bool} {zy0:Int} {zy1:Int} {by2:Bool} {zy3:Int} {by4:Bool}:(Op.equalIn 10000 29 (.agg #[iv zx0,iv zx1,.bool bx2,iv zx3,.bool bx4]) (.agg #[iv zy0,iv zy1,.bool by2,iv zy3,.bool by4])).run Tryz.prog w= .ok (decide (zx0=zy0/\zx1=zy1/\bx2=by2/\zx3=zy3/\bx4=by4)) w:=by
 rw[run_equalIn_agg w 9999 _ _ _ (by kernel_rfl) (by kernel_rfl)]
 have hf:(Tryz.prog.fieldsOf 29).toList =(match Tryz.prog.underlying 29 with|some (.struct fs)=>fs.toList|_=>[]):=by kernel_rfl
 rw[hf,Tryz.underlying29]
 have hx:(Op.eqFields 9999 #[iv zx0,iv zx1,.bool bx2,iv zx3,.bool bx4] #[iv zy0,iv zy1,.bool by2,iv zy3,.bool by4] (match Tryz.prog.underlying 29 with|some (.struct fs)=>fs.toList|_=>[])).run Tryz.prog w= .ok ((decide (zx0=zy0) && (decide (zx1=zy1) && (decide (bx2=by2) && (decide (zx3=zy3) && (decide (bx4=by4) && true)))))) w:=by
  rw[Tryz.underlying29]
  exact kg (by decide) Tryz.underlying2 rfl rfl (kg (by decide) Tryz.underlying3 rfl rfl (mY (by decide) Tryz.underlying4 rfl rfl (kg (by decide) Tryz.underlying3 rfl rfl (mY (by decide) Tryz.underlying4 rfl rfl (yA)))))
 rw[Tryz.underlying29] at hx
 rw[hx]
 simp only [Bool.and_true,y5]
theorem vn {w:World} {zx0:Int} {zx1:Int} {bx2:Bool} {zx3:Int} {bx4:Bool} {zy0:Int} {zy1:Int} {by2:Bool} {zy3:Int} {by4:Bool} {c:Bool} (h:decide (zx0=zy0/\zx1=zy1/\bx2=by2/\zx3=zy3/\bx4=by4)=c):(binOp .eql 29 (.agg #[iv zx0,iv zx1,.bool bx2,iv zx3,.bool bx4]) (.agg #[iv zy0,iv zy1,.bool by2,iv zy3,.bool by4])).run Tryz.prog w= .ok (.bool c) w:=by
 subst h
 rw[run_eql_struct,Jv]
 rfl
theorem eC:Ty Tryz.prog 40 5 [iv 0,iv 0,.bool false,iv 0,.bool false]:=⟨⟨_,Tryz.underlying40,rfl⟩,J0,CC⟩
theorem nT {w:World} {op:BinOp} {x y:Operand} {xs ys:Array Value}:(eqGuard op 40 x y (.agg xs) (.agg ys)).run Tryz.prog w= .ok () w:=run_eqGuard_agg w op _ x y xs ys (by kernel_rfl)
theorem Jw (w:World) {zx0:Int} {zx1:Int} {bx2:Bool} {zx3:Int} {bx4:Bool} {zy0:Int} {zy1:Int} {by2:Bool} {zy3:Int} {by4:Bool}:(Op.equalIn 10000 40 (.agg #[iv zx0,iv zx1,.bool bx2,iv zx3,.bool bx4]) (.agg #[iv zy0,iv zy1,.bool by2,iv zy3,.bool by4])).run Tryz.prog w= .ok (decide (zx0=zy0/\zx1=zy1/\bx2=by2/\zx3=zy3/\bx4=by4)) w:=by
 rw[run_equalIn_agg w 9999 _ _ _ (by kernel_rfl) (by kernel_rfl)]
 have hf:(Tryz.prog.fieldsOf 40).toList =(match Tryz.prog.underlying 40 with|some (.struct fs)=>fs.toList|_=>[]):=by kernel_rfl
 rw[hf,Tryz.underlying40]
 have hx:(Op.eqFields 9999 #[iv zx0,iv zx1,.bool bx2,iv zx3,.bool bx4] #[iv zy0,iv zy1,.bool by2,iv zy3,.bool by4] (match Tryz.prog.underlying 40 with|some (.struct fs)=>fs.toList|_=>[])).run Tryz.prog w= .ok ((decide (zx0=zy0) && (decide (zx1=zy1) && (decide (bx2=by2) && (decide (zx3=zy3) && (decide (bx4=by4) && true)))))) w:=by
  rw[Tryz.underlying40]
  exact kg (by decide) Tryz.underlying3 rfl rfl (kg (by decide) Tryz.underlying3 rfl rfl (mY (by decide) Tryz.underlying4 rfl rfl (kg (by decide) Tryz.underlying3 rfl rfl (mY (by decide) Tryz.underlying4 rfl rfl (yA)))))
 rw[Tryz.underlying40] at hx
 rw[hx]
 simp only [Bool.and_true,y5]
theorem oe {w:World} {zx0:Int} {zx1:Int} {bx2:Bool} {zx3:Int} {bx4:Bool} {zy0:Int} {zy1:Int} {by2:Bool} {zy3:Int} {by4:Bool} {c:Bool} (h:decide (zx0=zy0/\zx1=zy1/\bx2=by2/\zx3=zy3/\bx4=by4)=c):(binOp .eql 40 (.agg #[iv zx0,iv zx1,.bool bx2,iv zx3,.bool bx4]) (.agg #[iv zy0,iv zy1,.bool by2,iv zy3,.bool by4])).run Tryz.prog w= .ok (.bool c) w:=by
 subst h
 rw[run_eql_struct,Jw]
 rfl
theorem J4 {x:Rat} {n:Int} (hn:0<n) (hn2:n<=1000) (h0:0<=x) (h1:x<((360:Int):Rat)):gJ (Rat.floor (x*(((n:Int):Rat)/((360:Int):Rat))))=prt x n:=by
 have:=gD hn h0 h1
 exact k5 (show _<=prt x n by omega) (show prt x n<=_ by omega)
theorem ur (w:World):
 CP 183 #[] w (zO w pyr pay ssz sch):=by
 refine gs0 (nt:=6) Tryz.func183 rfl rfl fun a st hF=>wq<|S.alloc st hF kV rfl rfl fun g0 w1 a st hF=>nq<|S.ck st hF (rgc k60 hZ) (mr) Rl.cl rfl fun vv3 w2 a st hF=>?_
 obtain⟨r5,rfl⟩:=Rq.fo (st.f 0 rfl).1
 refine S.ck st hF (rgc JY hZ) (lU) Rl.cl rfl fun vv7 w6 a st hF=>?_
 obtain⟨r9,rfl⟩:=Rq.fo (st.f 0 rfl).1
 refine S.ck st hF (rgc k62 (aF ao ao)) du Rl.cl rfl fun vv11 w10 a st hF=>?_
 obtain⟨r13,rfl⟩:=Rq.fo (st.f 0 rfl).1
 refine S.ck st hF (rgc k62 (aF ao ao)) du Rl.cl rfl fun vv15 w14 a st hF=>?_
 obtain⟨r17,rfl⟩:=Rq.fo (st.f 0 rfl).1
 refine oV hF (be (pE (hF.at 3 rfl) hF.q hF.p hF.o) (pV _ _ _ _ _ _ _ _ _ _ _ _ _ _ _ _ _ _ _ _ _ _ _ _ _ _ _ _ _)) rfl fun a hF=>so st hF 0 5 0 kV rfl rfl rfl rfl fun w18 a st hF=>nr<|rs Tryz.results183 st hF 5 0 kV rfl rfl rfl ?_
 exact⟨_,rfl,⟨_,_,_,_,_,_,_,_,_,_,_,_,_,_,_,_,_,_,_,_,_,_,_,_,_,_,_,_,rfl,(st.f 3 rfl).1,(st.f 2 rfl).1,(st.f 1 rfl).1,(st.f 0 rfl).1⟩,st.bel⟩
theorem sE (w:World):
 CP 181 #[] w (zO w pmo pam msz mch):=by
 refine gs0 (nt:=6) Tryz.func181 rfl rfl fun a st hF=>wq<|S.alloc st hF kV rfl rfl fun g0 w1 a st hF=>nq<|S.ck st hF (rgc NI hZ) (Ga) Rl.cl rfl fun vv3 w2 a st hF=>?_
 obtain⟨r5,rfl⟩:=Rq.fo (st.f 0 rfl).1
 refine S.ck st hF (rgc NP hZ) (sm) Rl.cl rfl fun vv7 w6 a st hF=>?_
 obtain⟨r9,rfl⟩:=Rq.fo (st.f 0 rfl).1
 refine S.ck st hF (rgc k62 (aF ao ao)) du Rl.cl rfl fun vv11 w10 a st hF=>?_
 obtain⟨r13,rfl⟩:=Rq.fo (st.f 0 rfl).1
 refine S.ck st hF (rgc k62 (aF ao ao)) du Rl.cl rfl fun vv15 w14 a st hF=>?_
 obtain⟨r17,rfl⟩:=Rq.fo (st.f 0 rfl).1
 refine oV hF (be (pE (hF.at 3 rfl) hF.q hF.p hF.o) (pV _ _ _ _ _ _ _ _ _ _ _ _ _ _ _ _ _ _ _ _ _ _ _ _ _ _ _ _ _)) rfl fun a hF=>so st hF 0 5 0 kV rfl rfl rfl rfl fun w18 a st hF=>nr<|rs Tryz.results181 st hF 5 0 kV rfl rfl rfl ?_
 exact⟨_,rfl,⟨_,_,_,_,_,_,_,_,_,_,_,_,_,_,_,_,_,_,_,_,_,_,_,_,_,_,_,_,rfl,(st.f 3 rfl).1,(st.f 2 rfl).1,(st.f 1 rfl).1,(st.f 0 rfl).1⟩,st.bel⟩
theorem IH (v1 v2:Value) (qp qa qs qc qt:Rat) (k:Nat) (w:World) (hT:bn w) (ho:Orb w v1 qp qa qs qc) (h2:Rq w v2 qt) (lqp:aw qp 2) (lqa:aw qa 2) (lqs:aw qs 2) (lqc:aw qc 2) (hl:aw qt k) (hk:k<=100):
 CQ 223 #[v1,v2] w (eqv qt qa qs qc):=by
 obtain⟨qb1,qx1,qn1,qk1,qy1,qm1,qd1,qb2,qx2,qn2,qk2,qy2,qm2,qd2,qb3,qx3,qn3,qk3,qy3,qm3,qd3,qb4,qx4,qn4,qk4,qy4,qm4,qd4,rfl,hr1,hr2,hr3,hr4⟩:=ho
 have ho:Orb w (.agg #[.bool qb1,.slice qx1 qn1 qk1,.slice qy1 qm1 qd1,.bool qb2,.slice qx2 qn2 qk2,.slice qy2 qm2 qd2,.bool qb3,.slice qx3 qn3 qk3,.slice qy3 qm3 qd3,.bool qb4,.slice qx4 qn4 qk4,.slice qy4 qm4 qd4]) qp qa qs qc:=⟨_,_,_,_,_,_,_,_,_,_,_,_,_,_,_,_,_,_,_,_,_,_,_,_,_,_,_,_,rfl,hr1,hr2,hr3,hr4⟩
 refine gs2 (nt:=27) Tryz.func223 rfl rfl rfl fun a st hF=>wq<|bx st hF 0 rfl rfl fun g2 w1 a st hF=>?_
 obtain⟨r3,rfl⟩:=Rq.fo h2
 refine bx st hF 2 rfl rfl fun g3 w2 a st hF=>S.alloc st hF ab rfl rfl fun g4 w4 a st hF=>nq<|oL hF st 1 1 ab rfl rfl rfl rfl fun a hF=>oV hF (az (hF.at 3 rfl) (FW (p:=3) rfl)) rfl fun a hF=>oV hF (av hF.o (gi (vs:=[.bool qb2,.slice qx2 qn2 qk2,.slice qy2 qm2 qd2]) (st.b 2 rfl rfl) rfl rfl)) rfl fun a hF=>S.ck st hF (rgc EE (aF hF.q hF.o)) (Ay ⟨(h2.below st.bel),hl⟩ ⟨(hr2.below st.bel),lqa⟩) Rl.cl rfl fun vv6 w5 a st hF=>?_
 obtain⟨r8,rfl⟩:=Rq.fo (st.f 0 rfl).1
 refine S.ck st hF (rgc s8 (aD hF.o)) (qOf (hT.below st.bel) (st.f 0 rfl)) Rl.cl rfl fun vv10 w9 a st hF=>?_
 obtain⟨r12,rfl⟩:=Rq.fo (st.f 0 rfl).1
 refine S.new st hF 0 rfl ab rfl rfl rfl rfl rfl fun g5 w13 a st hF=>ns<|gz1 9 aG st hF ab [12,13,14,15,16,17,18,19,6] [_,_,_,.ex (.agg #[.bool qb4,.slice qx4 qn4 qk4,.slice qy4 qm4 qd4]),_,_,.ex (.agg #[.bool qb3,.slice qx3 qn3 qk3,.slice qy3 qm3 qd3]),_,_] (by decide+kernel) rfl rfl rfl ⟨rb st ab 0 0 rfl,ck st Ek rfl fun _ s=>EI (s.f 0 rfl),rd rfl rfl fun a' w' hF' hb=>(az (hF'.at 8 rfl) (E5 (p:=9) rfl)),(by intro a' w' hF' hb hd;have e14:=tE hd 0 rfl;exact dv0 (av e14 (gi (vs:=[.bool qb4,.slice qx4 qn4 qk4,.slice qy4 qm4 qd4]) ((st.b 3 rfl rfl).below hb) rfl rfl)) rfl rfl rfl),ck st k61 rfl fun _ s _ x13=>cN x13 ⟨(hr4.below s.bel),lqc⟩,rd rfl rfl fun a' w' hF' hb=>(az (hF'.at 8 rfl) (vZ (p:=6) rfl)),(by intro a' w' hF' hb hd;have e17:=tE hd 0 rfl;exact dv0 (av e17 (gi (vs:=[.bool qb3,.slice qx3 qn3 qk3,.slice qy3 qm3 qd3]) ((st.b 3 rfl rfl).below hb) rfl rfl)) rfl rfl rfl),ck st k61 rfl fun _ s _ x16=>cN x16 ⟨(hr3.below s.bel),lqs⟩,ra ab rfl rfl,trivial⟩ fun r17 g6 w18 a st hF=>ns<|gz2 7 aG st hF ab 2 8 [20,21,22,23,24,25,26] [_,_,.ex (.agg #[.bool qb3,.slice qx3 qn3 qk3,.slice qy3 qm3 qd3]),_,_,_,_] (by decide+kernel) rfl rfl rfl ⟨rb st ab 2 1 rfl,rd rfl rfl fun a' w' hF' hb=>(az (hF'.at 10 rfl) (vZ (p:=6) rfl)),(by intro a' w' hF' hb hd;have e21:=tE hd 0 rfl;exact dv0 (av e21 (gi (vs:=[.bool qb3,.slice qx3 qn3 qk3,.slice qy3 qm3 qd3]) ((st.b 4 rfl rfl).below hb) rfl rfl)) rfl rfl rfl),rb st ab 0 0 rfl,ck st fJ rfl fun _ s=>fL ⟨(hr3.below s.bel),lqs⟩ (s.f 0 rfl),ck st k61 rfl fun _ s _ x24=>cN (s.f 1 rfl) x24,ck st AU rfl fun _ s _ x25=>ED (hT.below s.bel) x25,trivial⟩ fun r22 w23 a st hF=>?_
 refine nr<|rs Tryz.results223 st hF 9 2 ab rfl rfl rfl ?_
 exact⟨_,rfl,(st.f 0 rfl).1,st.bel⟩
theorem pZ (v1:Value) (qt:Rat) (k:Nat) (w:World) (h1:Rq w v1 qt) (hl:aw qt k) (hk:k<=1000):
 CQ 128 #[v1] w (rmod qt ((360:Int):Rat)):=by
 refine gs1 (nt:=6) Tryz.func128 rfl rfl rfl fun a st hF=>wq ?_
 obtain⟨r2,rfl⟩:=Rq.fo h1
 refine bx st hF 0 rfl rfl fun g1 w1 a st hF=>S.alloc st hF ab rfl rfl fun g2 w3 a st hF=>ns<|gz2 3 aG st hF ab 0 0 [3,4,5] [_,_,_] (by decide+kernel) rfl rfl rfl ⟨rb st ab 1 1 rfl,ck st k52 rfl fun _ s=>dv,ck st Aq rfl fun _ s _ x4=>GN ⟨(h1.below s.bel),hl⟩ x4,trivial⟩ fun r7 w8 a st hF=>nr<|rs Tryz.results128 st hF 1 0 ab rfl rfl rfl ?_
 exact⟨_,rfl,(st.f 0 rfl).1,st.bel⟩
theorem yF (v1 v2:Value) (qp qa qs qc qt:Rat) (k:Nat) (w:World) (hT:bn w) (ho:Orb w v1 qp qa qs qc) (h2:Rq w v2 qt) (lqp:aw qp 2) (lqa:aw qa 2) (lqs:aw qs 2) (lqc:aw qc 2) (hl:aw qt k) (hk:k<=100):
 CQ 182 #[v1,v2] w (atv qt qp qa qs qc):=by
 obtain⟨qb1,qx1,qn1,qk1,qy1,qm1,qd1,qb2,qx2,qn2,qk2,qy2,qm2,qd2,qb3,qx3,qn3,qk3,qy3,qm3,qd3,qb4,qx4,qn4,qk4,qy4,qm4,qd4,rfl,hr1,hr2,hr3,hr4⟩:=ho
 have ho:Orb w (.agg #[.bool qb1,.slice qx1 qn1 qk1,.slice qy1 qm1 qd1,.bool qb2,.slice qx2 qn2 qk2,.slice qy2 qm2 qd2,.bool qb3,.slice qx3 qn3 qk3,.slice qy3 qm3 qd3,.bool qb4,.slice qx4 qn4 qk4,.slice qy4 qm4 qd4]) qp qa qs qc:=⟨_,_,_,_,_,_,_,_,_,_,_,_,_,_,_,_,_,_,_,_,_,_,_,_,_,_,_,_,rfl,hr1,hr2,hr3,hr4⟩
 refine gs2 (nt:=14) Tryz.func182 rfl rfl rfl fun a st hF=>wq<|bx st hF 0 rfl rfl fun g2 w1 a st hF=>?_
 obtain⟨r3,rfl⟩:=Rq.fo h2
 refine bx st hF 2 rfl rfl fun g3 w2 a st hF=>S.alloc st hF ab rfl rfl fun g4 w4 a st hF=>ns<|gz2 9 aG st hF ab 0 0 [5,6,7,8,9,10,11,12,13] [_,_,.ex (.agg #[.bool qb1,.slice qx1 qn1 qk1,.slice qy1 qm1 qd1]),_,_,_,_,_,_] (by decide+kernel) rfl rfl rfl ⟨rb st ab 1 1 rfl,rd rfl rfl fun a' w' hF' hb=>(az (hF'.at 2 rfl) (FZ (p:=0) rfl)),(by intro a' w' hF' hb hd;have e6:=tE hd 0 rfl;exact dv0 (av e6 (gi (vs:=[.bool qb1,.slice qx1 qn1 qk1,.slice qy1 qm1 qd1]) ((st.b 2 rfl rfl).below hb) rfl rfl)) rfl rfl rfl),ck st EE rfl fun _ s=>Ay ⟨(h2.below s.bel),hl⟩ ⟨(hr1.below s.bel),lqp⟩,rb st kV 2 2 rfl,rb st ab 1 1 rfl,ck st Of rfl fun _ s=>aR (IH _ _ qp qa qs qc (qt) k _ (hT.below s.bel) (ho.below s.bel) (h2.below s.bel) lqp lqa lqs lqc hl (by omega)) (y8 hl lqa lqs lqc),ck st fJ rfl fun _ s _ x8 _ x11=>fL x8 x11,ck st Lp rfl fun _ s _ x12=>aR (pZ _ ((mof (qt) (qp))-(eqv (qt) qa qs qc)) ((k+2+5)+(2*k+2*2+2*2+2+60)+1) _ x12.1 x12.2 (by omega)) (fC x12.2),trivial⟩ fun r8 w9 a st hF=>nr<|rs Tryz.results182 st hF 1 0 ab rfl rfl rfl ?_
 exact⟨_,rfl,(st.f 0 rfl).1,st.bel⟩
theorem qF (v1:Value) (qt:Rat) (k:Nat) (w:World) (hT:bn w) (h1:Rq w v1 qt) (hl:aw qt k) (hk:k<=100):
 CQ 131 #[v1] w (cT qt):=by
 refine gs1 (nt:=6) Tryz.func131 rfl rfl rfl fun a st hF=>wq ?_
 obtain⟨r2,rfl⟩:=Rq.fo h1
 refine bx st hF 0 rfl rfl fun g1 w1 a st hF=>S.alloc st hF ab rfl rfl fun g2 w3 a st hF=>ns<|gz2 3 aG st hF ab 0 0 [3,4,5] [.of (fun w v=>Orb w v pyr pay ssz sch) (fun _ _ _ h hb=>h.below hb),_,_] (by decide+kernel) rfl rfl rfl ⟨ck st NJ rfl fun _ s=>fi (ur _),rb st ab 1 1 rfl,ck st LC rfl fun _ s _ x3=>aR (yF _ _ pyr pay ssz sch (qt) k _ (hT.below s.bel) x3 (h1.below s.bel) mw jb zm zn hl (by omega)) (gM hl),trivial⟩ fun r7 w8 a st hF=>nr<|rs Tryz.results131 st hF 1 0 ab rfl rfl rfl ?_
 exact⟨_,rfl,(st.f 0 rfl).1,st.bel⟩
theorem Df (v1:Value) (qt:Rat) (k:Nat) (w:World) (hT:bn w) (h1:Rq w v1 qt) (hl:aw qt k) (hk:k<=100):
 CQ 129 #[v1] w (mC qt):=by
 refine gs1 (nt:=6) Tryz.func129 rfl rfl rfl fun a st hF=>wq ?_
 obtain⟨r2,rfl⟩:=Rq.fo h1
 refine bx st hF 0 rfl rfl fun g1 w1 a st hF=>S.alloc st hF ab rfl rfl fun g2 w3 a st hF=>ns<|gz2 3 aG st hF ab 0 0 [3,4,5] [.of (fun w v=>Orb w v pmo pam msz mch) (fun _ _ _ h hb=>h.below hb),_,_] (by decide+kernel) rfl rfl rfl ⟨ck st Ob rfl fun _ s=>fi (sE _),rb st ab 1 1 rfl,ck st LC rfl fun _ s _ x3=>aR (yF _ _ pmo pam msz mch (qt) k _ (hT.below s.bel) x3 (h1.below s.bel) o9 pC yI zI hl (by omega)) (lB hl),trivial⟩ fun r7 w8 a st hF=>nr<|rs Tryz.results129 st hF 1 0 ab rfl rfl rfl ?_
 exact⟨_,rfl,(st.f 0 rfl).1,st.bel⟩
theorem rB (v1:Value) (qt:Rat) (k:Nat) (w:World) (hT:bn w) (h1:Rq w v1 qt) (hl:aw qt k) (hk:k<=100):
 CQ 87 #[v1] w (bf qt):=by
 refine gs1 (nt:=9) Tryz.func87 rfl rfl rfl fun a st hF=>wq ?_
 obtain⟨r2,rfl⟩:=Rq.fo h1
 refine bx st hF 0 rfl rfl fun g1 w1 a st hF=>S.alloc st hF ab rfl rfl fun g2 w3 a st hF=>ns<|gz2 6 aG st hF ab 0 0 [3,4,5,6,7,8] [_,_,_,_,_,_] (by decide+kernel) rfl rfl rfl ⟨rb st ab 1 1 rfl,ck st Ns rfl fun _ s=>aR (Df _ (qt) k _ (hT.below s.bel) (h1.below s.bel) hl (by omega)) (lB hl),rb st ab 1 1 rfl,ck st AK rfl fun _ s=>aR (qF _ (qt) k _ (hT.below s.bel) (h1.below s.bel) hl (by omega)) (gM hl),ck st fJ rfl fun _ s _ x4 _ x6=>fL x4 x6,ck st Lp rfl fun _ s _ x7=>aR (pZ _ ((mC (qt))-(cT (qt))) ((3*k+100)+(3*k+100)+1) _ x7.1 x7.2 (by omega)) (fC x7.2),trivial⟩ fun r7 w8 a st hF=>nr<|rs Tryz.results87 st hF 1 0 ab rfl rfl rfl ?_
 exact⟨_,rfl,(st.f 0 rfl).1,st.bel⟩
theorem tZ (v1:Value) (qt:Rat) (k:Nat) (n:Int) (w:World) (h1:Rq w v1 qt) (hl:aw qt k) (hk:k<=1000) (hn:0<n) (hn2:n<=1000) (h0:0<=qt) (h3:qt<((360:Int):Rat)):
 CV 86 #[v1,iv n] w (iv (prt qt n)):=by
 refine gs2 (nt:=16) Tryz.func86 rfl rfl rfl fun a st hF=>wq ?_
 obtain⟨r2,rfl⟩:=Rq.fo h1
 refine bx st hF 0 rfl rfl fun g2 w1 a st hF=>?_
 refine oC hF rfl fun a hF=>ns ?_
 refine E.rg 10 aG hF [8,9,10,11,12,7,13,14,5,6] [_,_,_,_,_,.ex (.tuple #[iv (gJ (Rat.floor ((qt)*(((n:Int):Rat)/((360:Int):Rat))))),.bool (gX (Rat.floor ((qt)*(((n:Int):Rat)/((360:Int):Rat)))))]),.ex (iv (gJ (Rat.floor ((qt)*(((n:Int):Rat)/((360:Int):Rat)))))),.ex (.bool (gX (Rat.floor ((qt)*(((n:Int):Rat)/((360:Int):Rat)))))),.ex (iv (gJ (Rat.floor ((qt)*(((n:Int):Rat)/((360:Int):Rat)))))),.ex (.bool (gX (Rat.floor ((qt)*(((n:Int):Rat)/((360:Int):Rat))))))] (by decide+kernel) rfl rfl rfl ⟨rb st ab 1 0 rfl,rm 3 rfl,ck st k62 rfl fun _ s=>du,ck st k61 rfl fun _ s _ x10=>cN ⟨(h1.below s.bel),hl⟩ x10,ck st k63 rfl fun _ s _ x11=>a7 (iA _ ((qt)*(((n:Int):Rat)/((360:Int):Rat))) (k+2) _ x11.1 x11.2 (by omega)),(by intro a' w' hF' hb hd;have e12:=tE hd 0 rfl;exact dv0 (aB e12) rfl rfl rfl),(by intro a' w' hF' hb hd;have e7:=tE hd 0 rfl;exact dv0 (aM (v:= iv (gJ (Rat.floor ((qt)*(((n:Int):Rat)/((360:Int):Rat)))))) e7 rfl) rfl rfl rfl),(by intro a' w' hF' hb hd;have e7:=tE hd 0 rfl;exact dv0 (aM (v:= .bool (gX (Rat.floor ((qt)*(((n:Int):Rat)/((360:Int):Rat)))))) e7 rfl) rfl rfl rfl),(by intro a' w' hF' hb hd;have e13:=tE hd 0 rfl;exact dv0 (aZ e13) rfl rfl rfl),(by intro a' w' hF' hb hd;have e14:=tE hd 0 rfl;exact dv0 (aZ e14) rfl rfl rfl),trivial⟩ ?_
 intro a w3 hF bb hall
 replace st:=st.to bb
 replace hF:=rE hall hF 8 rfl rfl
 clear hall bb
 refine nq ?_
 refine oM hF 0 rfl rfl fun a hF=>oE hF 0 rfl rfl fun a hF=>nr ?_
 have bel:=st.bel
 refine rt Tryz.results86 hF 0 rfl ?_
 exact⟨bC (J4 hn hn2 h0 h3),bel⟩
theorem Dz (v1:Value) (qt:Rat) (k:Nat) (w:World) (hT:bn w) (h1:Rq w v1 qt) (hl:aw qt k) (hk:k<=100):
 CV 162 #[v1] w (iv (prt (cT qt) 12)):=by
 refine gs1 (nt:=6) Tryz.func162 rfl rfl rfl fun a st hF=>wq ?_
 obtain⟨r2,rfl⟩:=Rq.fo h1
 refine bx st hF 0 rfl rfl fun g1 w1 a st hF=>?_
 refine oC hF rfl fun a hF=>nq<|oL hF st 1 0 ab rfl rfl rfl rfl fun a hF=>S.ck st hF (rgc AK (aD hF.o)) (aR (qF _ (qt) k _ (hT.below st.bel) (h1.below st.bel) hl (by omega)) (gM hl)) Rl.cl rfl fun vv4 w3 a st hF=>?_
 obtain⟨r6,rfl⟩:=Rq.fo (st.f 0 rfl).1
 refine cX st hF (rgc k86 (aF hF.o ao)) (tZ _ _ (3*k+100) 12 _ (st.f 0 rfl).1 (st.f 0 rfl).2 (by omega) (by omega) (by omega) (wT _) (uh _)) rfl fun w7 a st hF=>?_
 have hpt16215:=gD (x:=cT (qt)) (n:=12) (by omega) (wT _) (uh _)
 refine oE hF 0 rfl rfl fun a hF=>nr ?_
 have bel:=st.bel
 refine rt Tryz.results162 hF 0 rfl ?_
 exact⟨rfl,bel⟩
theorem A5 (v1:Value) (qt:Rat) (k:Nat) (w:World) (hT:bn w) (h1:Rq w v1 qt) (hl:aw qt k) (hk:k<=100):
 CV 49 #[v1] w (iv (prt (bf qt) 30+1)):=by
 refine gs1 (nt:=7) Tryz.func49 rfl rfl rfl fun a st hF=>wq ?_
 obtain⟨r2,rfl⟩:=Rq.fo h1
 refine bx st hF 0 rfl rfl fun g1 w1 a st hF=>?_
 refine oC hF rfl fun a hF=>nq<|oL hF st 1 0 ab rfl rfl rfl rfl fun a hF=>?_
 refine ca st hF (rk On (aD hF.o)) (rB _ (qt) k _ (hT.below st.bel) (h1.below st.bel) hl (by omega)) (fun _ _ h=>h) Rq.cl rfl fun vv4 w3 a st hF=>?_
 obtain⟨r6,rfl⟩:=Rq.fo (st.f 0 rfl)
 refine cX st hF (rk Ol (aF hF.o ao)) (tZ _ _ (6*k+210) 30 _ (st.f 0 rfl) (m9 hl) (by omega) (by omega) (by omega) (j4 _) (jx _)) rfl fun w7 a st hF=>?_
 have hpt16717:=gD (x:=bf (qt)) (n:=30) (by omega) (j4 _) (jx _)
 refine oV hF (aq hF.o ao aa (aO (by omega) (by omega))) rfl fun a hF=>oE hF 0 rfl rfl fun a hF=>nr ?_
 have bel:=st.bel
 refine rt Tryz.results49 hF 0 rfl ?_
 exact⟨rfl,bel⟩
theorem BF {v1:Value} {p1:Rat} {k1:Nat} {w:World} (hT:bn w) (x1:Rl p1 k1 w v1) (a1:k1<=100:=by omega):CP 131 #[v1] w (Ret (kq (cT (p1)) ((3*k1+100))) w):=aR (qF _ (p1) k1 _ hT x1.1 x1.2 (by omega)) (gM x1.2)
theorem qN {v1:Value} {p1:Rat} {k1:Nat} {w:World} (hT:bn w) (x1:Rl p1 k1 w v1) (a1:k1<=100:=by omega):CP 87 #[v1] w (Ret (kq (bf (p1)) ((6*k1+210))) w):=aR (rB _ (p1) k1 _ hT x1.1 x1.2 (by omega)) (m9 x1.2)
theorem qy {v1:Value} {p1:Rat} {k1 i1:Nat} {w:World} (x1:Rh p1 k1 i1 w v1) (a1:k1<=3000:=by omega) (b1:1<=k1:=by omega) (c1:i1<=800:=by omega):CP 188 #[v1] w (Ret (kh (sof (p1)) ((k1+i1+40)) ((i1+12))) w):=bh (Ce _ (p1) k1 i1 _ x1.1 x1.2 (by omega) (by omega) (by omega)) (eR x1.2)
theorem A3 {v1:Value} {p1:Rat} {k1 i1:Nat} {w:World} (x1:Rh p1 k1 i1 w v1) (a1:k1<=6000:=by omega) (b1:1<=k1:=by omega):CP 191 #[v1] w (Ret (kh (br (p1)) ((k1+20)) ((i1+20))) w):=bh (CS _ (p1) k1 _ x1.1 (by omega) (by omega)) (k4 x1.2)
theorem GV {x:Rat} {n:Int} (hn:0<n) (hn2:n<=1000):0<=Rat.floor ((rmod x ((360:Int):Rat))*(((n:Int):Rat)/((360:Int):Rat)))/\Rat.floor ((rmod x ((360:Int):Rat))*(((n:Int):Rat)/((360:Int):Rat)))<65536:=by
 have:=gD (n:=n) (x:=rmod x ((360:Int):Rat)) hn (da bj) (cF bj)
 exact⟨show 0<=prt _ n by omega,show prt _ n<_ by omega⟩
theorem tN (v1 v2 v3 v4 v5:Value) (q1 q2 q3 q4 q5:Rat) (k i:Nat) (w:World) (h1:Rr w v1 q1 k) (h2:Rr w v2 q2 12) (h3:Rr w v3 q3 12) (h4:Rr w v4 q4 12) (h5:Rr w v5 q5 12) (li1:aw q1 i) (li2:aw q2 2) (li3:aw q3 2) (li4:aw q4 2) (li5:aw q5 2) (hp:1<=k) (hk:k<=300) (hi:i<=10):
 CP 141 #[v1,v2,v3,v4,v5] w (bI w (atv q1 q2 q3 q4 q5) (3*k+8*i+400)):=by
 obtain⟨r1,rfl⟩:=h1.fo
 obtain⟨r2,rfl⟩:=h2.fo
 obtain⟨r3,rfl⟩:=h3.fo
 obtain⟨r4,rfl⟩:=h4.fo
 obtain⟨r5,rfl⟩:=h5.fo
 have st:=St.start w
 refine E.enter (nt:=37) (L:=[(0,r1.v),(1,r2.v),(2,r3.v),(3,r4.v),(4,r5.v)]) Tryz.func141 rfl rfl rfl (bp (i:=0) rfl (bp (i:=1) rfl (bp (i:=2) rfl (bp (i:=3) rfl (bp (i:=4) rfl fv))))) ?_
 intro a hF
 refine wq<|bx st hF 0 rfl rfl fun g5 w1 a st hF=>bx st hF 2 rfl rfl fun g6 w2 a st hF=>bx st hF 4 rfl rfl fun g7 w3 a st hF=>bx st hF 6 rfl rfl fun g8 w4 a st hF=>bx st hF 8 rfl rfl fun g9 w5 a st hF=>S.alloc st hF ah rfl rfl fun g10 w6 a st hF=>nq ?_
 refine oL hF st 5 5 ah rfl rfl rfl rfl fun a hF=>oL hF st 4 3 ah rfl rfl rfl rfl fun a hF=>S.ck st hF (rgc Ba (aF hF.p hF.o)) (AD ⟨(h1.below st.bel),li1⟩ ⟨(h3.below st.bel),li3⟩) Rh.cl rfl fun vv8 w7 a st hF=>?_
 obtain⟨r10,rfl⟩:=Rr.fo (st.f 0 rfl).1
 refine S.ck st hF (rgc rh (aD hF.o)) (qy (st.f 0 rfl)) Rh.cl rfl fun vv12 w11 a st hF=>?_
 obtain⟨r14,rfl⟩:=Rr.fo (st.f 0 rfl).1
 refine S.new st hF 0 rfl ah rfl rfl rfl rfl rfl fun g11 w15 a st hF=>ns<|gz1 7 aG st hF ah [18,19,20,21,22,23,12] [_,_,_,_,_,_,_] (by decide+kernel) rfl rfl rfl ⟨rb st ah 0 0 rfl,ck st Ao rfl fun _ s=>bh (mB _ (sof (mof (q1) (q3))) ((k+12+i+2+30)+(i+2+5)+40) _ (s.f 0 rfl).1) (f7 (s.f 0 rfl).2),rb st ah 6 2 rfl,ck st k65 rfl fun _ s _ x19=>ce x19 ⟨(h5.below s.bel),li5⟩,rb st ah 7 3 rfl,ck st k65 rfl fun _ s _ x21=>ce x21 ⟨(h4.below s.bel),li4⟩,ra ah rfl rfl,trivial⟩ fun r19 g12 w20 a st hF=>ns<|gz1 7 aG st hF ah [24,25,26,27,28,29,13] [_,_,_,_,_,_,_] (by decide+kernel) rfl rfl rfl ⟨rb st ah 2 1 rfl,rb st ah 9 4 rfl,rb st ah 0 0 rfl,ck st k94 rfl fun _ s=>en ⟨(h4.below s.bel),li4⟩ (s.f 0 rfl),ck st k65 rfl fun _ s _ x27=>ce (s.f 1 rfl) x27,ck st E3 rfl fun _ s _ x28=>A3 x28,ra ah rfl rfl,trivial⟩ fun r24 g13 w25 a st hF=>?_
 refine ns<|gz2 7 aG st hF ah 3 9 [30,31,32,33,34,35,36] [_,_,_,_,_,_,_] (by decide+kernel) rfl rfl rfl ⟨rb st ah 14 8 rfl,rb st ah 13 7 rfl,ck st Ba rfl fun _ s=>AD ⟨(h1.below s.bel),li1⟩ ⟨(h2.below s.bel),li2⟩,rb st ah 0 0 rfl,ck st k94 rfl fun _ s _ x32=>en x32 (s.f 0 rfl),ck st k55 rfl fun _ s=>cY,ck st tv rfl fun _ s _ x34 _ x35=>sf x34 x35,trivial⟩ fun r29 w30 a st hF=>nr<|rs Tryz.results141 st hF 10 3 ah rfl rfl rfl ?_
 exact⟨_,rfl,Rr.cast (Rr.up (st.f 0 rfl).1 _ (by omega)) rfl,st.bel⟩
theorem sd (v1:Value) (q1:Rat) (k i:Nat) (w:World) (h1:Rr w v1 q1 k) (li1:aw q1 i) (hp:1<=k) (hk:k<=300) (hi:i<=3):
 CP 99 #[v1] w (bI w (cT q1) (3*k+8*i+400)):=by
 obtain⟨r1,rfl⟩:=h1.fo
 refine gs1 (nt:=9) Tryz.func99 rfl rfl rfl fun a st hF=>wq<|bx st hF 0 rfl rfl fun g1 w1 a st hF=>S.alloc st hF ah rfl rfl fun g2 w2 a st hF=>ns ?_
 refine E.rg 6 aG hF [3,4,5,6,7,8] [_,_,_,_,_,.of (fun w v=>Rr w v (atv (q1) (pyr) (pay) (((7:Int):Rat)/((180:Int):Rat)) (((1:Int):Rat)/((42:Int):Rat))) ((3*k+8*i+400))) (fun _ _ _ h hb=>h.below hb)] (by decide+kernel) rfl rfl rfl ⟨rb st ah 1 1 rfl,ck st k66 rfl fun _ s=>oY,ck st EQ rfl fun _ s=>jS,ck st k55 rfl fun _ s=>cH,ck st k55 rfl fun _ s=>cH,ck st J5 rfl fun _ s _ x4 _ x5 _ x6 _ x7=>fi (tN _ _ _ _ _ (q1) (pyr) (pay) (((7:Int):Rat)/((180:Int):Rat)) (((1:Int):Rat)/((42:Int):Rat)) k i _ (h1.below s.bel) (Rr.up x4.1 12 (by omega)) (Rr.up x5.1 12 (by omega)) (Rr.up x6.1 12 (by omega)) (Rr.up x7.1 12 (by omega)) li1 x4.2 x5.2 x6.2 x7.2 (by omega) (by omega) (by omega)),trivial⟩ ?_
 intro a w3 hF bb hall
 replace st:=st.to bb
 obtain⟨vv4,hF,st⟩:=rS hall hF st 5 rfl rfl Rr.cl
 obtain⟨r6,rfl⟩:=Rr.fo (st.f 0 rfl)
 clear hall bb
 refine so st hF 0 1 0 ah rfl rfl rfl rfl fun w7 a st hF=>nr<|rs Tryz.results99 st hF 1 0 ah rfl rfl rfl ?_
 exact⟨_,rfl,Rr.cast (Rr.up (st.f 0 rfl) _ (by omega)) (by rw[show((7:Int):Rat)/((180:Int):Rat)=ssz by decide+kernel];rfl),st.bel⟩
theorem xY (v1:Value) (q1:Rat) (k i:Nat) (w:World) (h1:Rr w v1 q1 k) (li1:aw q1 i) (hp:1<=k) (hk:k<=300) (hi:i<=3):
 CP 125 #[v1] w (bI w (mC q1) (3*k+8*i+400)):=by
 obtain⟨r1,rfl⟩:=h1.fo
 refine gs1 (nt:=9) Tryz.func125 rfl rfl rfl fun a st hF=>wq<|bx st hF 0 rfl rfl fun g1 w1 a st hF=>S.alloc st hF ah rfl rfl fun g2 w2 a st hF=>ns ?_
 refine E.rg 6 aG hF [3,4,5,6,7,8] [_,_,_,_,_,.of (fun w v=>Rr w v (atv (q1) (pmo) (pam) (((4:Int):Rat)/((45:Int):Rat)) (((1:Int):Rat)/((96:Int):Rat))) ((3*k+8*i+400))) (fun _ _ _ h hb=>h.below hb)] (by decide+kernel) rfl rfl rfl ⟨rb st ah 1 1 rfl,ck st NK rfl fun _ s=>JJ,ck st Nq rfl fun _ s=>sw,ck st k55 rfl fun _ s=>cH,ck st k55 rfl fun _ s=>cH,ck st J5 rfl fun _ s _ x4 _ x5 _ x6 _ x7=>fi (tN _ _ _ _ _ (q1) (pmo) (pam) (((4:Int):Rat)/((45:Int):Rat)) (((1:Int):Rat)/((96:Int):Rat)) k i _ (h1.below s.bel) (Rr.up x4.1 12 (by omega)) (Rr.up x5.1 12 (by omega)) (Rr.up x6.1 12 (by omega)) (Rr.up x7.1 12 (by omega)) li1 x4.2 x5.2 x6.2 x7.2 (by omega) (by omega) (by omega)),trivial⟩ ?_
 intro a w3 hF bb hall
 replace st:=st.to bb
 obtain⟨vv4,hF,st⟩:=rS hall hF st 5 rfl rfl Rr.cl
 obtain⟨r6,rfl⟩:=Rr.fo (st.f 0 rfl)
 clear hall bb
 refine so st hF 0 1 0 ah rfl rfl rfl rfl fun w7 a st hF=>nr<|rs Tryz.results125 st hF 1 0 ah rfl rfl rfl ?_
 exact⟨_,rfl,Rr.cast (Rr.up (st.f 0 rfl) _ (by omega)) (by rw[show((4:Int):Rat)/((45:Int):Rat)=msz by decide+kernel];rfl),st.bel⟩
theorem xx (v1:Value) (q1:Rat) (k i:Nat) (w:World) (h1:Rr w v1 q1 k) (li1:aw q1 i) (hp:1<=k) (hk:k<=300) (hi:i<=3):
 CP 82 #[v1] w (bI w (bf q1) (6*k+22*i+1100)):=by
 obtain⟨r1,rfl⟩:=h1.fo
 refine gs1 (nt:=10) Tryz.func82 rfl rfl rfl fun a st hF=>wq<|bx st hF 0 rfl rfl fun g1 w1 a st hF=>S.alloc st hF ah rfl rfl fun g2 w2 a st hF=>ns<|gz2 7 aG st hF ah 0 0 [3,4,5,6,7,8,9] [_,_,_,_,_,_,_] (by decide+kernel) rfl rfl rfl ⟨rb st ah 1 1 rfl,ck st NY rfl fun _ s=>bh (xY _ (q1) k i _ (h1.below s.bel) li1 (by omega) (by omega) (by omega)) (lB li1),rb st ah 1 1 rfl,ck st k99 rfl fun _ s=>bh (sd _ (q1) k i _ (h1.below s.bel) li1 (by omega) (by omega) (by omega)) (gM li1),ck st k94 rfl fun _ s _ x4 _ x6=>en x4 x6,ck st k55 rfl fun _ s=>cY,ck st tv rfl fun _ s _ x7 _ x8=>sf x7 x8,trivial⟩ fun r6 w7 a st hF=>?_
 refine nr<|rs Tryz.results82 st hF 1 0 ah rfl rfl rfl ?_
 exact⟨_,rfl,Rr.cast (Rr.up (st.f 0 rfl).1 _ (by omega)) rfl,st.bel⟩
theorem lE (v1:Value) (q1:Rat) (k i:Nat) (n:Int) (w:World) (h1:Rr w v1 q1 k) (li1:aw q1 i) (hp:1<=k) (hk:k<=3000) (hi:i<=600) (hn:0<n) (hn2:n<=1000):
 CV 81 #[v1,iv n] w (iv (prt (rmod q1 ((360:Int):Rat)) n)):=by
 obtain⟨r1,rfl⟩:=h1.fo
 refine gs2 (nt:=12) Tryz.func81 rfl rfl rfl fun a st hF=>wq<|bx st hF 0 rfl rfl fun g2 w1 a st hF=>?_
 refine oC hF rfl fun a hF=>ns ?_
 refine E.rg 7 aG hF [5,6,7,8,9,10,11] [_,_,_,_,_,_,_] (by decide+kernel) rfl rfl rfl ⟨rb st ah 1 0 rfl,ck st k55 rfl fun _ s=>cY,ck st tv rfl fun _ s _ x6=>sf ⟨(h1.below s.bel),li1⟩ x6,rm 3 rfl,ck st k55 rfl fun _ s=>cH,ck st k65 rfl fun _ s _ x7 _ x9=>ce x7 x9,ck st k67 rfl fun _ s _ x10=>a7 (tK _ ((rmod (q1) (((360:Int):Rat)))*(((n:Int):Rat)/((360:Int):Rat))) ((k+2+i+2+3)+2) _ x10.1 (by omega) (by omega) (GV hn hn2).1 (GV hn hn2).2),trivial⟩ ?_
 intro a w2 hF bb hall
 replace st:=st.to bb
 replace hF:=rE hall hF 6 rfl rfl
 clear hall bb
 refine oE hF 0 rfl rfl fun a hF=>nr ?_
 have bel:=st.bel
 refine rt Tryz.results81 hF 0 rfl ?_
 exact⟨rfl,bel⟩
theorem A6 {v1:Value} {p1:Rat} {k1 i1:Nat} {w:World} (x1:Rh p1 k1 i1 w v1) (a1:k1<=300:=by omega) (b1:1<=k1:=by omega) (c1:i1<=3:=by omega):CP 99 #[v1] w (Ret (kh (cT (p1)) ((3*k1+8*i1+400)) ((3*i1+100))) w):=bh (sd _ (p1) k1 i1 _ x1.1 x1.2 (by omega) (by omega) (by omega)) (gM x1.2)
theorem sO {v1:Value} {p1:Rat} {k1 i1:Nat} {w:World} (x1:Rh p1 k1 i1 w v1) (a1:k1<=300:=by omega) (b1:1<=k1:=by omega) (c1:i1<=3:=by omega):CP 82 #[v1] w (Ret (kh (bf (p1)) ((6*k1+22*i1+1100)) ((6*i1+210))) w):=bh (xx _ (p1) k1 i1 _ x1.1 x1.2 (by omega) (by omega) (by omega)) (m9 x1.2)
end Go.Proofs.YtddiipaomejcfaaGreatDoor
