import Derived.Test.YtddiipaomejcfaaGreatDoorKA21
import Derived.Laws.StructEq
namespace Go.Proofs.YtddiipaomejcfaaGreatDoor
open Go.RowKit
set_option maxRecDepth 100000
set_option linter.unusedVariables false
set_option maxHeartbeats 8000000
theorem nW {a:Act} {i j k l:Nat} {x y z u:Operand} {p q r s:Value} (h:a.eval x=p) (h2:a.eval y=q) (h3:a.eval z=r) (h4:a.eval u=s):(#[(i,x),(j,y),(k,z),(l,u)].map fun(p:Nat×Operand)=>(p.1,a.eval p.2))=#[(i,p),(j,q),(k,r),(l,s)]:=by simp[h,h2,h3,h4]
theorem BB {a:Act} {i j k l m:Nat} {x y z u v:Operand} {p q r s t:Value} (h:a.eval x=p) (h2:a.eval y=q) (h3:a.eval z=r) (h4:a.eval u=s) (h5:a.eval v=t):(#[(i,x),(j,y),(k,z),(l,u),(m,v)].map fun(p:Nat×Operand)=>(p.1,a.eval p.2))=#[(i,p),(j,q),(k,r),(l,s),(m,t)]:=by simp[h,h2,h3,h4,h5]
theorem EH:(Tryz.prog.info? 176).map (·.size)=some 12:=by kernel_rfl
theorem yg:(Tryz.prog.info? 176).bind (·.zero)=some (.agg #[.bool false,.slice none 0 0,.slice none 0 0,.bool false,.slice none 0 0,.slice none 0 0,.bool false,.slice none 0 0,.slice none 0 0,.bool false,.slice none 0 0,.slice none 0 0]):=by kernel_rfl
theorem Aq {w:World} {g o p:Nat} (hp:o+0=p):(Instr.fieldAt 176 (.pointer (some ⟨g,o,none⟩)) 0).run Tryz.prog w= .ok (.pointer (some ⟨g,p,none⟩)) w:=bv Tryz.underlying176 rfl rfl gC rfl p hp
theorem Aw {w:World} {g o p:Nat} (hp:o+3=p):(Instr.fieldAt 176 (.pointer (some ⟨g,o,none⟩)) 1).run Tryz.prog w= .ok (.pointer (some ⟨g,p,none⟩)) w:=bv Tryz.underlying176 rfl rfl gC rfl p hp
theorem sT {w:World} {g o p:Nat} (hp:o+6=p):(Instr.fieldAt 176 (.pointer (some ⟨g,o,none⟩)) 2).run Tryz.prog w= .ok (.pointer (some ⟨g,p,none⟩)) w:=bv Tryz.underlying176 rfl rfl gC rfl p hp
theorem zm {w:World} {g o p:Nat} (hp:o+9=p):(Instr.fieldAt 176 (.pointer (some ⟨g,o,none⟩)) 3).run Tryz.prog w= .ok (.pointer (some ⟨g,p,none⟩)) w:=bv Tryz.underlying176 rfl rfl gC rfl p hp
theorem qy {place:Nat->Option (Nat×Nat)} {cells:Array Value} {i off:Nat} {x y z:Value} {rest:List (Nat×Value)} (hp:place i=some (off,3)) (hc:off+3<=cells.size):
 Instr.fill place cells ((i,.agg #[x,y,z])::rest)=Instr.fill place (((cells.setIfInBounds off x).setIfInBounds (off+1) y).setIfInBounds (off+2) z) rest:=by
 conv=>lhs;unfold Instr.fill
 rw[hp]
 have h1:(Value.agg #[x,y,z]).cells =#[x,y,z]:=rfl
 simp only [h1]
 rw[if_neg (by simp;omega)]
 have h2:∀f:Array Value->Value×Nat->Array Value,Array.foldl f cells #[x,y,z].zipIdx =f (f (f cells (x,0)) (y,1)) (z,2):=fun f=>rfl
 rw[h2]
 rfl
theorem mH (b00:Bool) (a01:Option Addr) (n01 c01:Nat) (a02:Option Addr) (n02 c02:Nat) (b10:Bool) (a11:Option Addr) (n11 c11:Nat) (a12:Option Addr) (n12 c12:Nat) (b20:Bool) (a21:Option Addr) (n21 c21:Nat) (a22:Option Addr) (n22 c22:Nat) (b30:Bool) (a31:Option Addr) (n31 c31:Nat) (a32:Option Addr) (n32 c32:Nat) (w:World):(Instr.build 176 #[(0,.agg #[.bool b00,.slice a01 n01 c01,.slice a02 n02 c02]),(1,.agg #[.bool b10,.slice a11 n11 c11,.slice a12 n12 c12]),(2,.agg #[.bool b20,.slice a21 n21 c21,.slice a22 n22 c22]),(3,.agg #[.bool b30,.slice a31 n31 c31,.slice a32 n32 c32])]).run Tryz.prog w= .ok (.agg #[.bool b00,.slice a01 n01 c01,.slice a02 n02 c02,.bool b10,.slice a11 n11 c11,.slice a12 n12 c12,.bool b20,.slice a21 n21 c21,.slice a22 n22 c22,.bool b30,.slice a31 n31 c31,.slice a32 n32 c32]) w:=by
 have hz:=cL yg w
 have h_Rat:∀w,(sizeOf 78).run Tryz.prog w= .ok 3 w:=fun w=>bh gC w
 simp only [Instr.build,Sem.run_bind,hz,Result.andThen_ok,run_underlying Tryz.underlying176,List.mapM_toArray,List.mapM_cons,List.mapM_nil,Sem.run_map,h_Rat,Sem.run_pure]
 rw[show(Value.agg #[Value.bool false,Value.slice none 0 0,Value.slice none 0 0,Value.bool false,Value.slice none 0 0,Value.slice none 0 0,Value.bool false,Value.slice none 0 0,Value.slice none 0 0,Value.bool false,Value.slice none 0 0,Value.slice none 0 0]).cells =#[Value.bool false,Value.slice none 0 0,Value.slice none 0 0,Value.bool false,Value.slice none 0 0,Value.slice none 0 0,Value.bool false,Value.slice none 0 0,Value.slice none 0 0,Value.bool false,Value.slice none 0 0,Value.slice none 0 0] from rfl]
 rw[qy (off:=0) rfl (by simp),qy (off:=3) rfl (by simp),qy (off:=6) rfl (by simp),qy (off:=9) rfl (by simp)]
 simp only [List.setIfInBounds_toArray,List.set_cons_zero,List.set_cons_succ,Nat.reduceAdd,Nat.zero_add]
 rfl
def Orb (w:World) (v:Value) (p an s c:Rat):Prop:=
 ∃b1 a1 n1 c1 d1 m1 e1 b2 a2 n2 c2 d2 m2 e2 b3 a3 n3 c3 d3 m3 e3 b4 a4 n4 c4 d4 m4 e4,v= .agg #[.bool b1,.slice a1 n1 c1,.slice d1 m1 e1,.bool b2,.slice a2 n2 c2,.slice d2 m2 e2,.bool b3,.slice a3 n3 c3,.slice d3 m3 e3,.bool b4,.slice a4 n4 c4,.slice d4 m4 e4]/\
  Rq w (.agg #[.bool b1,.slice a1 n1 c1,.slice d1 m1 e1]) p/\Rq w (.agg #[.bool b2,.slice a2 n2 c2,.slice d2 m2 e2]) an/\Rq w (.agg #[.bool b3,.slice a3 n3 c3,.slice d3 m3 e3]) s/\Rq w (.agg #[.bool b4,.slice a4 n4 c4,.slice d4 m4 e4]) c
theorem Orb.below {w w':World} {v:Value} {p an s c:Rat} (h:Orb w v p an s c) (hb:Below w.heap.size w w'):Orb w' v p an s c:=by
 obtain⟨b1,a1,n1,c1,d1,m1,e1,b2,a2,n2,c2,d2,m2,e2,b3,a3,n3,c3,d3,m3,e3,b4,a4,n4,c4,d4,m4,e4,h0,h1,h2,h3,h4⟩:=h
 exact⟨b1,a1,n1,c1,d1,m1,e1,b2,a2,n2,c2,d2,m2,e2,b3,a3,n3,c3,d3,m3,e3,b4,a4,n4,c4,d4,m4,e4,h0,h1.below hb,h2.below hb,h3.below hb,h4.below hb⟩
def uI (w:World) (p an s c:Rat) (e:Ending) (w':World):Prop:=∃v,e= .returned v/\Orb w' v p an s c/\Below w.heap.size w w'
theorem iW:Ty Tryz.prog 176 12 [.bool false,.slice none 0 0,.slice none 0 0,.bool false,.slice none 0 0,.slice none 0 0,.bool false,.slice none 0 0,.slice none 0 0,.bool false,.slice none 0 0,.slice none 0 0]:=⟨⟨_,Tryz.underlying176,rfl⟩,EH,yg⟩
theorem sr {P:Program} {w:World} {d:Nat} {xs ys:Array Value} {f:Field} {fs:List Field} {s:Bool} {a b:Bool} (hn:(f.name != "_")=true) (hu:P.underlying f.type=some .bool) (h1:xs[f.offset]?=some (.bool a)) (h2:ys[f.offset]?=some (.bool b))
 (hr:(Op.eqFields (d+1) xs ys fs).run P w= .ok s w):(Op.eqFields (d+1) xs ys (f::fs)).run P w= .ok (decide (a=b) && s) w:=by
 have hn':f.name≠ "_":=by simpa using hn
 simp only [Op.eqFields,Sem.run_bind,Sem.run_ite,if_pos hn',kz hu rfl h1,kz hu rfl h2,Result.andThen_ok,run_equalIn_bool w d f.type a b hu]
 by_cases e:a=b
 ·subst e;simp[hr]
 ·simp[e]
theorem fB {w:World} {g o:Nat} {cs:List Value} {v:Value} (h:Blk w g cs) (hv:cs[o]?=some v):(Instr.loadAt 4 (.pointer (some ⟨g,o,none⟩))).run Tryz.prog w= .ok v w:=lB h hv Tryz.underlying4 rfl
theorem wt:(Tryz.prog.info? 29).map (·.size)=some 5:=by kernel_rfl
theorem nO:(Tryz.prog.info? 29).bind (·.zero)=some (.agg #[iv 0,iv 0,.bool false,iv 0,.bool false]):=by kernel_rfl
theorem uJ {w:World} {g o:Nat} {cs vs:List Value} (h:Blk w g cs) (hv:(cs.drop o).take 5=vs) (hl:vs.length=5):(Instr.loadAt 29 (.pointer (some ⟨g,o,none⟩))).run Tryz.prog w= .ok (.agg vs.toArray) w:=kl h hv hl Tryz.underlying29 rfl wt
theorem kA {w:World} {g o p:Nat} (hp:o+0=p):(Instr.fieldAt 29 (.pointer (some ⟨g,o,none⟩)) 0).run Tryz.prog w= .ok (.pointer (some ⟨g,p,none⟩)) w:=bv Tryz.underlying29 rfl rfl cw rfl p hp
theorem ce {w:World} {g o p:Nat} (hp:o+1=p):(Instr.fieldAt 29 (.pointer (some ⟨g,o,none⟩)) 1).run Tryz.prog w= .ok (.pointer (some ⟨g,p,none⟩)) w:=bv Tryz.underlying29 rfl rfl cT rfl p hp
theorem d8 {w:World} {g o p:Nat} (hp:o+2=p):(Instr.fieldAt 29 (.pointer (some ⟨g,o,none⟩)) 2).run Tryz.prog w= .ok (.pointer (some ⟨g,p,none⟩)) w:=bv Tryz.underlying29 rfl rfl cV rfl p hp
theorem cS {w:World} {g o p:Nat} (hp:o+3=p):(Instr.fieldAt 29 (.pointer (some ⟨g,o,none⟩)) 3).run Tryz.prog w= .ok (.pointer (some ⟨g,p,none⟩)) w:=bv Tryz.underlying29 rfl rfl cT rfl p hp
theorem gM {w:World} {g o p:Nat} (hp:o+4=p):(Instr.fieldAt 29 (.pointer (some ⟨g,o,none⟩)) 4).run Tryz.prog w= .ok (.pointer (some ⟨g,p,none⟩)) w:=bv Tryz.underlying29 rfl rfl cV rfl p hp
theorem uP (w:World):(Instr.build 29 #[]).run Tryz.prog w= .ok (.agg #[iv 0,iv 0,.bool false,iv 0,.bool false]) w:=by
 have hz:=cL nO w
 have h_bool:∀w,(sizeOf 4).run Tryz.prog w= .ok 1 w:=fun w=>bh cV w
 have h_int:∀w,(sizeOf 3).run Tryz.prog w= .ok 1 w:=fun w=>bh cT w
 have h_i64:∀w,(sizeOf 2).run Tryz.prog w= .ok 1 w:=fun w=>bh cw w
 simp only [Instr.build,Sem.run_bind,hz,Result.andThen_ok,run_underlying Tryz.underlying29,List.mapM_toArray,List.mapM_cons,List.mapM_nil,Sem.run_map,h_bool,h_i64,h_int,Sem.run_pure]
 rfl
theorem sE (z00:Int) (z10:Int) (b20:Bool) (z30:Int) (b40:Bool) (w:World):(Instr.build 29 #[(0,iv z00),(1,iv z10),(2,.bool b20),(3,iv z30),(4,.bool b40)]).run Tryz.prog w= .ok (.agg #[iv z00,iv z10,.bool b20,iv z30,.bool b40]) w:=by
 have hz:=cL nO w
 have h_bool:∀w,(sizeOf 4).run Tryz.prog w= .ok 1 w:=fun w=>bh cV w
 have h_int:∀w,(sizeOf 3).run Tryz.prog w= .ok 1 w:=fun w=>bh cT w
 have h_i64:∀w,(sizeOf 2).run Tryz.prog w= .ok 1 w:=fun w=>bh cw w
 simp only [Instr.build,Sem.run_bind,hz,Result.andThen_ok,run_underlying Tryz.underlying29,List.mapM_toArray,List.mapM_cons,List.mapM_nil,Sem.run_map,h_bool,h_i64,h_int,Sem.run_pure]
 rfl
theorem aG:Ty Tryz.prog 29 5 [iv 0,iv 0,.bool false,iv 0,.bool false]:=⟨⟨_,Tryz.underlying29,rfl⟩,wt,nO⟩
theorem dq {w:World} {op:BinOp} {x y:Operand} {xs ys:Array Value}:(eqGuard op 29 x y (.agg xs) (.agg ys)).run Tryz.prog w= .ok () w:=run_eqGuard_agg w op _ x y xs ys (by kernel_rfl)
theorem ua (w:World) {zx0:Int} {zx1:Int} {bx2:Bool} {zx3:Int} {bx4:Bool} {zy0:Int} {zy1:Int} {by2:Bool} {zy3:Int} {by4:Bool}:(Op.equalIn 10000 29 (.agg #[iv zx0,iv zx1,.bool bx2,iv zx3,.bool bx4]) (.agg #[iv zy0,iv zy1,.bool by2,iv zy3,.bool by4])).run Tryz.prog w= .ok (decide (zx0=zy0/\zx1=zy1/\bx2=by2/\zx3=zy3/\bx4=by4)) w:=by
 rw[run_equalIn_agg w 9999 _ _ _ (by kernel_rfl) (by kernel_rfl)]
 have hf:(Tryz.prog.fieldsOf 29).toList =(match Tryz.prog.underlying 29 with|some (.struct fs)=>fs.toList|_=>[]):=by kernel_rfl
 rw[hf,Tryz.underlying29]
 have hx:(Op.eqFields 9999 #[iv zx0,iv zx1,.bool bx2,iv zx3,.bool bx4] #[iv zy0,iv zy1,.bool by2,iv zy3,.bool by4] (match Tryz.prog.underlying 29 with|some (.struct fs)=>fs.toList|_=>[])).run Tryz.prog w= .ok ((decide (zx0=zy0) && (decide (zx1=zy1) && (decide (bx2=by2) && (decide (zx3=zy3) && (decide (bx4=by4) && true)))))) w:=by
  rw[Tryz.underlying29]
  exact pg (by decide) Tryz.underlying2 rfl rfl (pg (by decide) Tryz.underlying3 rfl rfl (sr (by decide) Tryz.underlying4 rfl rfl (pg (by decide) Tryz.underlying3 rfl rfl (sr (by decide) Tryz.underlying4 rfl rfl (Cc)))))
 rw[Tryz.underlying29] at hx
 rw[hx]
 simp only [Bool.and_true,Cz]
theorem dD {w:World} {zx0:Int} {zx1:Int} {bx2:Bool} {zx3:Int} {bx4:Bool} {zy0:Int} {zy1:Int} {by2:Bool} {zy3:Int} {by4:Bool} {c:Bool} (h:decide (zx0=zy0/\zx1=zy1/\bx2=by2/\zx3=zy3/\bx4=by4)=c):(binOp .eql 29 (.agg #[iv zx0,iv zx1,.bool bx2,iv zx3,.bool bx4]) (.agg #[iv zy0,iv zy1,.bool by2,iv zy3,.bool by4])).run Tryz.prog w= .ok (.bool c) w:=by
 subst h
 rw[run_eql_struct,ua]
 rfl
theorem CN {w:World} {zx0:Int} {zx1:Int} {bx2:Bool} {zx3:Int} {bx4:Bool} {zy0:Int} {zy1:Int} {by2:Bool} {zy3:Int} {by4:Bool} {c:Bool} (h:decide (zx0=zy0/\zx1=zy1/\bx2=by2/\zx3=zy3/\bx4=by4)=c):(binOp .neq 29 (.agg #[iv zx0,iv zx1,.bool bx2,iv zx3,.bool bx4]) (.agg #[iv zy0,iv zy1,.bool by2,iv zy3,.bool by4])).run Tryz.prog w= .ok (.bool (!c)) w:=by
 subst h
 rw[run_neq_struct,ua]
 rfl
theorem DD {x:Rat} {n:Int} (hn:0<n) (hn2:n<=1000) (h0:0<=x) (h1:x<((360:Int):Rat)):fl (Rat.floor (x*(((n:Int):Rat)/((360:Int):Rat))))=prt x n:=by
 have:=ke hn h0 h1
 exact iV (show _<=prt x n by omega) (show prt x n<=_ by omega)
theorem ql (w:World):
 CP 183 #[] w (uI w pyr pay ssz sch):=by
 refine gs0 (nt:=6) Tryz.func183 rfl rfl fun a st hF=>wq<|S.alloc st hF iW rfl rfl fun g0 w1 a st hF=>nq<|S.ck st hF (rgc k60 fk) (jZ) Rl.cl rfl fun vv3 w2 a st hF=>?_
 obtain⟨r5,rfl⟩:=Rq.fo (st.f 0 rfl).1
 refine S.ck st hF (rgc DV fk) (jW) Rl.cl rfl fun vv7 w6 a st hF=>?_
 obtain⟨r9,rfl⟩:=Rq.fo (st.f 0 rfl).1
 refine S.ck st hF (rgc k62 (aH aq aq)) cE Rl.cl rfl fun vv11 w10 a st hF=>?_
 obtain⟨r13,rfl⟩:=Rq.fo (st.f 0 rfl).1
 refine S.ck st hF (rgc k62 (aH aq aq)) cE Rl.cl rfl fun vv15 w14 a st hF=>?_
 obtain⟨r17,rfl⟩:=Rq.fo (st.f 0 rfl).1
 refine oV hF (bH (nW (hF.at 3 rfl) hF.q hF.p hF.o) (mH _ _ _ _ _ _ _ _ _ _ _ _ _ _ _ _ _ _ _ _ _ _ _ _ _ _ _ _ _)) rfl fun a hF=>so st hF 0 5 0 iW rfl rfl rfl rfl fun w18 a st hF=>nr<|rs Tryz.results183 st hF 5 0 iW rfl rfl rfl ?_
 exact⟨_,rfl,⟨_,_,_,_,_,_,_,_,_,_,_,_,_,_,_,_,_,_,_,_,_,_,_,_,_,_,_,_,rfl,(st.f 3 rfl).1,(st.f 2 rfl).1,(st.f 1 rfl).1,(st.f 0 rfl).1⟩,st.bel⟩
theorem pB (w:World):
 CP 181 #[] w (uI w pmo pam msz mch):=by
 refine gs0 (nt:=6) Tryz.func181 rfl rfl fun a st hF=>wq<|S.alloc st hF iW rfl rfl fun g0 w1 a st hF=>nq<|S.ck st hF (rgc GT fk) (zy) Rl.cl rfl fun vv3 w2 a st hF=>?_
 obtain⟨r5,rfl⟩:=Rq.fo (st.f 0 rfl).1
 refine S.ck st hF (rgc GX fk) (nR) Rl.cl rfl fun vv7 w6 a st hF=>?_
 obtain⟨r9,rfl⟩:=Rq.fo (st.f 0 rfl).1
 refine S.ck st hF (rgc k62 (aH aq aq)) cE Rl.cl rfl fun vv11 w10 a st hF=>?_
 obtain⟨r13,rfl⟩:=Rq.fo (st.f 0 rfl).1
 refine S.ck st hF (rgc k62 (aH aq aq)) cE Rl.cl rfl fun vv15 w14 a st hF=>?_
 obtain⟨r17,rfl⟩:=Rq.fo (st.f 0 rfl).1
 refine oV hF (bH (nW (hF.at 3 rfl) hF.q hF.p hF.o) (mH _ _ _ _ _ _ _ _ _ _ _ _ _ _ _ _ _ _ _ _ _ _ _ _ _ _ _ _ _)) rfl fun a hF=>so st hF 0 5 0 iW rfl rfl rfl rfl fun w18 a st hF=>nr<|rs Tryz.results181 st hF 5 0 iW rfl rfl rfl ?_
 exact⟨_,rfl,⟨_,_,_,_,_,_,_,_,_,_,_,_,_,_,_,_,_,_,_,_,_,_,_,_,_,_,_,_,rfl,(st.f 3 rfl).1,(st.f 2 rfl).1,(st.f 1 rfl).1,(st.f 0 rfl).1⟩,st.bel⟩
theorem BS (v1 v2:Value) (qp qa qs qc qt:Rat) (k:Nat) (w:World) (hT:a8 w) (ho:Orb w v1 qp qa qs qc) (h2:Rq w v2 qt) (lqp:au qp 2) (lqa:au qa 2) (lqs:au qs 2) (lqc:au qc 2) (hl:au qt k) (hk:k<=100):
 CQ 223 #[v1,v2] w (eqv qt qa qs qc):=by
 obtain⟨qb1,qx1,qn1,qk1,qy1,qm1,qd1,qb2,qx2,qn2,qk2,qy2,qm2,qd2,qb3,qx3,qn3,qk3,qy3,qm3,qd3,qb4,qx4,qn4,qk4,qy4,qm4,qd4,rfl,hr1,hr2,hr3,hr4⟩:=ho
 have ho:Orb w (.agg #[.bool qb1,.slice qx1 qn1 qk1,.slice qy1 qm1 qd1,.bool qb2,.slice qx2 qn2 qk2,.slice qy2 qm2 qd2,.bool qb3,.slice qx3 qn3 qk3,.slice qy3 qm3 qd3,.bool qb4,.slice qx4 qn4 qk4,.slice qy4 qm4 qd4]) qp qa qs qc:=⟨_,_,_,_,_,_,_,_,_,_,_,_,_,_,_,_,_,_,_,_,_,_,_,_,_,_,_,_,rfl,hr1,hr2,hr3,hr4⟩
 refine gs2 (nt:=27) Tryz.func223 rfl rfl rfl fun a st hF=>wq<|bx st hF 0 rfl rfl fun g2 w1 a st hF=>?_
 obtain⟨r3,rfl⟩:=Rq.fo h2
 refine bx st hF 2 rfl rfl fun g3 w2 a st hF=>S.alloc st hF aa rfl rfl fun g4 w4 a st hF=>nq<|oL hF st 1 1 aa rfl rfl rfl rfl fun a hF=>oV hF (az (hF.at 3 rfl) (Aw (p:=3) rfl)) rfl fun a hF=>oV hF (aw hF.o (eM (vs:=[.bool qb2,.slice qx2 qn2 qk2,.slice qy2 qm2 qd2]) (st.b 2 rfl rfl) rfl rfl)) rfl fun a hF=>S.ck st hF (rgc zq (aH hF.q hF.o)) (vR ⟨(h2.below st.bel),hl⟩ ⟨(hr2.below st.bel),lqa⟩) Rl.cl rfl fun vv6 w5 a st hF=>?_
 obtain⟨r8,rfl⟩:=Rq.fo (st.f 0 rfl).1
 refine S.ck st hF (rgc oR (aL hF.o)) (qOf (hT.below st.bel) (st.f 0 rfl)) Rl.cl rfl fun vv10 w9 a st hF=>?_
 obtain⟨r12,rfl⟩:=Rq.fo (st.f 0 rfl).1
 refine S.new st hF 0 rfl aa rfl rfl rfl rfl rfl fun g5 w13 a st hF=>ns<|gz1 9 aP st hF aa [12,13,14,15,16,17,18,19,6] [_,_,_,.ex (.agg #[.bool qb4,.slice qx4 qn4 qk4,.slice qy4 qm4 qd4]),_,_,.ex (.agg #[.bool qb3,.slice qx3 qn3 qk3,.slice qy3 qm3 qd3]),_,_] (by decide+kernel) rfl rfl rfl ⟨rb st aa 0 0 rfl,ck st Aj rfl fun _ s=>zr (s.f 0 rfl),rd rfl rfl fun a' w' hF' hb=>(az (hF'.at 8 rfl) (zm (p:=9) rfl)),(by intro a' w' hF' hb hd;have e14:=tE hd 0 rfl;exact dv0 (aw e14 (eM (vs:=[.bool qb4,.slice qx4 qn4 qk4,.slice qy4 qm4 qd4]) ((st.b 3 rfl rfl).below hb) rfl rfl)) rfl rfl rfl),ck st k61 rfl fun _ s _ x13=>cn x13 ⟨(hr4.below s.bel),lqc⟩,rd rfl rfl fun a' w' hF' hb=>(az (hF'.at 8 rfl) (sT (p:=6) rfl)),(by intro a' w' hF' hb hd;have e17:=tE hd 0 rfl;exact dv0 (aw e17 (eM (vs:=[.bool qb3,.slice qx3 qn3 qk3,.slice qy3 qm3 qd3]) ((st.b 3 rfl rfl).below hb) rfl rfl)) rfl rfl rfl),ck st k61 rfl fun _ s _ x16=>cn x16 ⟨(hr3.below s.bel),lqs⟩,ra aa rfl rfl,trivial⟩ fun r17 g6 w18 a st hF=>ns<|gz2 7 aP st hF aa 2 8 [20,21,22,23,24,25,26] [_,_,.ex (.agg #[.bool qb3,.slice qx3 qn3 qk3,.slice qy3 qm3 qd3]),_,_,_,_] (by decide+kernel) rfl rfl rfl ⟨rb st aa 2 1 rfl,rd rfl rfl fun a' w' hF' hb=>(az (hF'.at 10 rfl) (sT (p:=6) rfl)),(by intro a' w' hF' hb hd;have e21:=tE hd 0 rfl;exact dv0 (aw e21 (eM (vs:=[.bool qb3,.slice qx3 qn3 qk3,.slice qy3 qm3 qd3]) ((st.b 4 rfl rfl).below hb) rfl rfl)) rfl rfl rfl),rb st aa 0 0 rfl,ck st eh rfl fun _ s=>ep ⟨(hr3.below s.bel),lqs⟩ (s.f 0 rfl),ck st k61 rfl fun _ s _ x24=>cn (s.f 1 rfl) x24,ck st vj rfl fun _ s _ x25=>za (hT.below s.bel) x25,trivial⟩ fun r22 w23 a st hF=>?_
 refine nr<|rs Tryz.results223 st hF 9 2 aa rfl rfl rfl ?_
 exact⟨_,rfl,(st.f 0 rfl).1,st.bel⟩
theorem mF (v1:Value) (qt:Rat) (k:Nat) (w:World) (h1:Rq w v1 qt) (hl:au qt k) (hk:k<=1000):
 CQ 128 #[v1] w (rmod qt ((360:Int):Rat)):=by
 refine gs1 (nt:=6) Tryz.func128 rfl rfl rfl fun a st hF=>wq ?_
 obtain⟨r2,rfl⟩:=Rq.fo h1
 refine bx st hF 0 rfl rfl fun g1 w1 a st hF=>S.alloc st hF aa rfl rfl fun g2 w3 a st hF=>ns<|gz2 3 aP st hF aa 0 0 [3,4,5] [_,_,_] (by decide+kernel) rfl rfl rfl ⟨rb st aa 1 1 rfl,ck st k52 rfl fun _ s=>cD,ck st vZ rfl fun _ s _ x4=>A3 ⟨(h1.below s.bel),hl⟩ x4,trivial⟩ fun r7 w8 a st hF=>nr<|rs Tryz.results128 st hF 1 0 aa rfl rfl rfl ?_
 exact⟨_,rfl,(st.f 0 rfl).1,st.bel⟩
theorem ui (v1 v2:Value) (qp qa qs qc qt:Rat) (k:Nat) (w:World) (hT:a8 w) (ho:Orb w v1 qp qa qs qc) (h2:Rq w v2 qt) (lqp:au qp 2) (lqa:au qa 2) (lqs:au qs 2) (lqc:au qc 2) (hl:au qt k) (hk:k<=100):
 CQ 182 #[v1,v2] w (atv qt qp qa qs qc):=by
 obtain⟨qb1,qx1,qn1,qk1,qy1,qm1,qd1,qb2,qx2,qn2,qk2,qy2,qm2,qd2,qb3,qx3,qn3,qk3,qy3,qm3,qd3,qb4,qx4,qn4,qk4,qy4,qm4,qd4,rfl,hr1,hr2,hr3,hr4⟩:=ho
 have ho:Orb w (.agg #[.bool qb1,.slice qx1 qn1 qk1,.slice qy1 qm1 qd1,.bool qb2,.slice qx2 qn2 qk2,.slice qy2 qm2 qd2,.bool qb3,.slice qx3 qn3 qk3,.slice qy3 qm3 qd3,.bool qb4,.slice qx4 qn4 qk4,.slice qy4 qm4 qd4]) qp qa qs qc:=⟨_,_,_,_,_,_,_,_,_,_,_,_,_,_,_,_,_,_,_,_,_,_,_,_,_,_,_,_,rfl,hr1,hr2,hr3,hr4⟩
 refine gs2 (nt:=14) Tryz.func182 rfl rfl rfl fun a st hF=>wq<|bx st hF 0 rfl rfl fun g2 w1 a st hF=>?_
 obtain⟨r3,rfl⟩:=Rq.fo h2
 refine bx st hF 2 rfl rfl fun g3 w2 a st hF=>S.alloc st hF aa rfl rfl fun g4 w4 a st hF=>ns<|gz2 9 aP st hF aa 0 0 [5,6,7,8,9,10,11,12,13] [_,_,.ex (.agg #[.bool qb1,.slice qx1 qn1 qk1,.slice qy1 qm1 qd1]),_,_,_,_,_,_] (by decide+kernel) rfl rfl rfl ⟨rb st aa 1 1 rfl,rd rfl rfl fun a' w' hF' hb=>(az (hF'.at 2 rfl) (Aq (p:=0) rfl)),(by intro a' w' hF' hb hd;have e6:=tE hd 0 rfl;exact dv0 (aw e6 (eM (vs:=[.bool qb1,.slice qx1 qn1 qk1,.slice qy1 qm1 qd1]) ((st.b 2 rfl rfl).below hb) rfl rfl)) rfl rfl rfl),ck st zq rfl fun _ s=>vR ⟨(h2.below s.bel),hl⟩ ⟨(hr1.below s.bel),lqp⟩,rb st iW 2 2 rfl,rb st aa 1 1 rfl,ck st GB rfl fun _ s=>aN (BS _ _ qp qa qs qc (qt) k _ (hT.below s.bel) (ho.below s.bel) (h2.below s.bel) lqp lqa lqs lqc hl (by omega)) (uK hl lqa lqs lqc),ck st eh rfl fun _ s _ x8 _ x11=>ep x8 x11,ck st DE rfl fun _ s _ x12=>aN (mF _ ((mof (qt) (qp))-(eqv (qt) qa qs qc)) ((k+2+5)+(2*k+2*2+2*2+2+60)+1) _ x12.1 x12.2 (by omega)) (eR x12.2),trivial⟩ fun r8 w9 a st hF=>nr<|rs Tryz.results182 st hF 1 0 aa rfl rfl rfl ?_
 exact⟨_,rfl,(st.f 0 rfl).1,st.bel⟩
theorem nx (v1:Value) (qt:Rat) (k:Nat) (w:World) (hT:a8 w) (h1:Rq w v1 qt) (hl:au qt k) (hk:k<=100):
 CQ 131 #[v1] w (cK qt):=by
 refine gs1 (nt:=6) Tryz.func131 rfl rfl rfl fun a st hF=>wq ?_
 obtain⟨r2,rfl⟩:=Rq.fo h1
 refine bx st hF 0 rfl rfl fun g1 w1 a st hF=>S.alloc st hF aa rfl rfl fun g2 w3 a st hF=>ns<|gz2 3 aP st hF aa 0 0 [3,4,5] [.of (fun w v=>Orb w v pyr pay ssz sch) (fun _ _ _ h hb=>h.below hb),_,_] (by decide+kernel) rfl rfl rfl ⟨ck st GU rfl fun _ s=>jk (ql _),rb st aa 1 1 rfl,ck st DJ rfl fun _ s _ x3=>aN (ui _ _ pyr pay ssz sch (qt) k _ (hT.below s.bel) x3 (h1.below s.bel) oF md uv uA hl (by omega)) (gK hl),trivial⟩ fun r7 w8 a st hF=>nr<|rs Tryz.results131 st hF 1 0 aa rfl rfl rfl ?_
 exact⟨_,rfl,(st.f 0 rfl).1,st.bel⟩
theorem yf (v1:Value) (qt:Rat) (k:Nat) (w:World) (hT:a8 w) (h1:Rq w v1 qt) (hl:au qt k) (hk:k<=100):
 CQ 129 #[v1] w (ma qt):=by
 refine gs1 (nt:=6) Tryz.func129 rfl rfl rfl fun a st hF=>wq ?_
 obtain⟨r2,rfl⟩:=Rq.fo h1
 refine bx st hF 0 rfl rfl fun g1 w1 a st hF=>S.alloc st hF aa rfl rfl fun g2 w3 a st hF=>ns<|gz2 3 aP st hF aa 0 0 [3,4,5] [.of (fun w v=>Orb w v pmo pam msz mch) (fun _ _ _ h hb=>h.below hb),_,_] (by decide+kernel) rfl rfl rfl ⟨ck st Gd rfl fun _ s=>jk (pB _),rb st aa 1 1 rfl,ck st DJ rfl fun _ s _ x3=>aN (ui _ _ pmo pam msz mch (qt) k _ (hT.below s.bel) x3 (h1.below s.bel) oX oG uH tT hl (by omega)) (lq hl),trivial⟩ fun r7 w8 a st hF=>nr<|rs Tryz.results129 st hF 1 0 aa rfl rfl rfl ?_
 exact⟨_,rfl,(st.f 0 rfl).1,st.bel⟩
theorem oi (v1:Value) (qt:Rat) (k:Nat) (w:World) (hT:a8 w) (h1:Rq w v1 qt) (hl:au qt k) (hk:k<=100):
 CQ 87 #[v1] w (bm qt):=by
 refine gs1 (nt:=9) Tryz.func87 rfl rfl rfl fun a st hF=>wq ?_
 obtain⟨r2,rfl⟩:=Rq.fo h1
 refine bx st hF 0 rfl rfl fun g1 w1 a st hF=>S.alloc st hF aa rfl rfl fun g2 w3 a st hF=>ns<|gz2 6 aP st hF aa 0 0 [3,4,5,6,7,8] [_,_,_,_,_,_] (by decide+kernel) rfl rfl rfl ⟨rb st aa 1 1 rfl,ck st Gj rfl fun _ s=>aN (yf _ (qt) k _ (hT.below s.bel) (h1.below s.bel) hl (by omega)) (lq hl),rb st aa 1 1 rfl,ck st vH rfl fun _ s=>aN (nx _ (qt) k _ (hT.below s.bel) (h1.below s.bel) hl (by omega)) (gK hl),ck st eh rfl fun _ s _ x4 _ x6=>ep x4 x6,ck st DE rfl fun _ s _ x7=>aN (mF _ ((ma (qt))-(cK (qt))) ((3*k+100)+(3*k+100)+1) _ x7.1 x7.2 (by omega)) (eR x7.2),trivial⟩ fun r7 w8 a st hF=>nr<|rs Tryz.results87 st hF 1 0 aa rfl rfl rfl ?_
 exact⟨_,rfl,(st.f 0 rfl).1,st.bel⟩
theorem qj (v1:Value) (qt:Rat) (k:Nat) (n:Int) (w:World) (h1:Rq w v1 qt) (hl:au qt k) (hk:k<=1000) (hn:0<n) (hn2:n<=1000) (h0:0<=qt) (h3:qt<((360:Int):Rat)):
 CV 86 #[v1,iv n] w (iv (prt qt n)):=by
 refine gs2 (nt:=16) Tryz.func86 rfl rfl rfl fun a st hF=>wq ?_
 obtain⟨r2,rfl⟩:=Rq.fo h1
 refine bx st hF 0 rfl rfl fun g2 w1 a st hF=>?_
 refine oC hF rfl fun a hF=>ns ?_
 refine E.rg 10 aP hF [8,9,10,11,12,7,13,14,5,6] [_,_,_,_,_,.ex (.tuple #[iv (fl (Rat.floor ((qt)*(((n:Int):Rat)/((360:Int):Rat))))),.bool (fD (Rat.floor ((qt)*(((n:Int):Rat)/((360:Int):Rat)))))]),.ex (iv (fl (Rat.floor ((qt)*(((n:Int):Rat)/((360:Int):Rat)))))),.ex (.bool (fD (Rat.floor ((qt)*(((n:Int):Rat)/((360:Int):Rat)))))),.ex (iv (fl (Rat.floor ((qt)*(((n:Int):Rat)/((360:Int):Rat)))))),.ex (.bool (fD (Rat.floor ((qt)*(((n:Int):Rat)/((360:Int):Rat))))))] (by decide+kernel) rfl rfl rfl ⟨rb st aa 1 0 rfl,rm 3 rfl,ck st k62 rfl fun _ s=>cE,ck st k61 rfl fun _ s _ x10=>cn ⟨(h1.below s.bel),hl⟩ x10,ck st k63 rfl fun _ s _ x11=>a9 (go _ ((qt)*(((n:Int):Rat)/((360:Int):Rat))) (k+2) _ x11.1 x11.2 (by omega)),(by intro a' w' hF' hb hd;have e12:=tE hd 0 rfl;exact dv0 (aC e12) rfl rfl rfl),(by intro a' w' hF' hb hd;have e7:=tE hd 0 rfl;exact dv0 (av (v:= iv (fl (Rat.floor ((qt)*(((n:Int):Rat)/((360:Int):Rat)))))) e7 rfl) rfl rfl rfl),(by intro a' w' hF' hb hd;have e7:=tE hd 0 rfl;exact dv0 (av (v:= .bool (fD (Rat.floor ((qt)*(((n:Int):Rat)/((360:Int):Rat)))))) e7 rfl) rfl rfl rfl),(by intro a' w' hF' hb hd;have e13:=tE hd 0 rfl;exact dv0 (a5 e13) rfl rfl rfl),(by intro a' w' hF' hb hd;have e14:=tE hd 0 rfl;exact dv0 (a5 e14) rfl rfl rfl),trivial⟩ ?_
 intro a w3 hF bb hall
 replace st:=st.to bb
 replace hF:=rE hall hF 8 rfl rfl
 clear hall bb
 refine nq ?_
 refine oM hF 0 rfl rfl fun a hF=>oE hF 0 rfl rfl fun a hF=>nr ?_
 have bel:=st.bel
 refine rt Tryz.results86 hF 0 rfl ?_
 exact⟨bS (DD hn hn2 h0 h3),bel⟩
theorem yE (v1:Value) (qt:Rat) (k:Nat) (w:World) (hT:a8 w) (h1:Rq w v1 qt) (hl:au qt k) (hk:k<=100):
 CV 162 #[v1] w (iv (prt (cK qt) 12)):=by
 refine gs1 (nt:=6) Tryz.func162 rfl rfl rfl fun a st hF=>wq ?_
 obtain⟨r2,rfl⟩:=Rq.fo h1
 refine bx st hF 0 rfl rfl fun g1 w1 a st hF=>?_
 refine oC hF rfl fun a hF=>nq<|oL hF st 1 0 aa rfl rfl rfl rfl fun a hF=>S.ck st hF (rgc vH (aL hF.o)) (aN (nx _ (qt) k _ (hT.below st.bel) (h1.below st.bel) hl (by omega)) (gK hl)) Rl.cl rfl fun vv4 w3 a st hF=>?_
 obtain⟨r6,rfl⟩:=Rq.fo (st.f 0 rfl).1
 refine cX st hF (rgc k86 (aH hF.o aq)) (qj _ _ (3*k+100) 12 _ (st.f 0 rfl).1 (st.f 0 rfl).2 (by omega) (by omega) (by omega) (rh _) (pZ _)) rfl fun w7 a st hF=>?_
 have hpt16215:=ke (x:=cK (qt)) (n:=12) (by omega) (rh _) (pZ _)
 refine oE hF 0 rfl rfl fun a hF=>nr ?_
 have bel:=st.bel
 refine rt Tryz.results162 hF 0 rfl ?_
 exact⟨rfl,bel⟩
theorem v7 (v1:Value) (qt:Rat) (k:Nat) (w:World) (hT:a8 w) (h1:Rq w v1 qt) (hl:au qt k) (hk:k<=100):
 CV 49 #[v1] w (iv (prt (bm qt) 30+1)):=by
 refine gs1 (nt:=7) Tryz.func49 rfl rfl rfl fun a st hF=>wq ?_
 obtain⟨r2,rfl⟩:=Rq.fo h1
 refine bx st hF 0 rfl rfl fun g1 w1 a st hF=>?_
 refine oC hF rfl fun a hF=>nq<|oL hF st 1 0 aa rfl rfl rfl rfl fun a hF=>?_
 refine ca st hF (rk Gq (aL hF.o)) (oi _ (qt) k _ (hT.below st.bel) (h1.below st.bel) hl (by omega)) (fun _ _ h=>h) Rq.cl rfl fun vv4 w3 a st hF=>?_
 obtain⟨r6,rfl⟩:=Rq.fo (st.f 0 rfl)
 refine cX st hF (rk GG (aH hF.o aq)) (qj _ _ (6*k+210) 30 _ (st.f 0 rfl) (nL hl) (by omega) (by omega) (by omega) (iH _) (ic _)) rfl fun w7 a st hF=>?_
 have hpt16717:=ke (x:=bm (qt)) (n:=30) (by omega) (iH _) (ic _)
 refine oV hF (ao hF.o aq ah (aU (by omega) (by omega))) rfl fun a hF=>oE hF 0 rfl rfl fun a hF=>nr ?_
 have bel:=st.bel
 refine rt Tryz.results49 hF 0 rfl ?_
 exact⟨rfl,bel⟩
theorem yq {v1:Value} {p1:Rat} {k1:Nat} {w:World} (hT:a8 w) (x1:Rl p1 k1 w v1) (a1:k1<=100:=by omega):CP 131 #[v1] w (Ret (kq (cK (p1)) ((3*k1+100))) w):=aN (nx _ (p1) k1 _ hT x1.1 x1.2 (by omega)) (gK x1.2)
theorem nc {v1:Value} {p1:Rat} {k1:Nat} {w:World} (hT:a8 w) (x1:Rl p1 k1 w v1) (a1:k1<=100:=by omega):CP 87 #[v1] w (Ret (kq (bm (p1)) ((6*k1+210))) w):=aN (oi _ (p1) k1 _ hT x1.1 x1.2 (by omega)) (nL x1.2)
end Go.Proofs.YtddiipaomejcfaaGreatDoor
