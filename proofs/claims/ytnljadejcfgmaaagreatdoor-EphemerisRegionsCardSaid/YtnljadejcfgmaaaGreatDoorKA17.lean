import Derived.Test.YtnljadejcfgmaaaGreatDoorKA13
namespace Go.Proofs.YtnljadejcfgmaaaGreatDoor
open Go.RowKit
set_option maxRecDepth 100000
set_option linter.unusedVariables false
set_option maxHeartbeats 8000000
theorem pair4 {a:Act} {i j k l:Nat} {x y z u:Operand} {p q r s:Value} (h:a.eval x=p) (h2:a.eval y=q) (h3:a.eval z=r) (h4:a.eval u=s):(#[(i,x),(j,y),(k,z),(l,u)].map fun(p:Nat×Operand)=>(p.1,a.eval p.2))=#[(i,p),(j,q),(k,r),(l,s)]:=by simp[h,h2,h3,h4]
theorem pair5 {a:Act} {i j k l m:Nat} {x y z u v:Operand} {p q r s t:Value} (h:a.eval x=p) (h2:a.eval y=q) (h3:a.eval z=r) (h4:a.eval u=s) (h5:a.eval v=t):(#[(i,x),(j,y),(k,z),(l,u),(m,v)].map fun(p:Nat×Operand)=>(p.1,a.eval p.2))=#[(i,p),(j,q),(k,r),(l,s),(m,t)]:=by simp[h,h2,h3,h4,h5]
theorem sz_Orb:(Tryz.prog.info? 156).map (·.size)=some 12:=by kernel_rfl
theorem ze_Orb:(Tryz.prog.info? 156).bind (·.zero)=some (.agg #[.bool false,.slice none 0 0,.slice none 0 0,.bool false,.slice none 0 0,.slice none 0 0,.bool false,.slice none 0 0,.slice none 0 0,.bool false,.slice none 0 0,.slice none 0 0]):=by kernel_rfl
theorem fa_Orb_0 {w:World} {g o p:Nat} (hp:o+0=p):(Instr.fieldAt 156 (.pointer (some ⟨g,o,none⟩)) 0).run Tryz.prog w= .ok (.pointer (some ⟨g,p,none⟩)) w:=own_field Tryz.underlying156 rfl rfl sz_Rat rfl p hp
theorem fa_Orb_1 {w:World} {g o p:Nat} (hp:o+3=p):(Instr.fieldAt 156 (.pointer (some ⟨g,o,none⟩)) 1).run Tryz.prog w= .ok (.pointer (some ⟨g,p,none⟩)) w:=own_field Tryz.underlying156 rfl rfl sz_Rat rfl p hp
theorem fa_Orb_2 {w:World} {g o p:Nat} (hp:o+6=p):(Instr.fieldAt 156 (.pointer (some ⟨g,o,none⟩)) 2).run Tryz.prog w= .ok (.pointer (some ⟨g,p,none⟩)) w:=own_field Tryz.underlying156 rfl rfl sz_Rat rfl p hp
theorem fa_Orb_3 {w:World} {g o p:Nat} (hp:o+9=p):(Instr.fieldAt 156 (.pointer (some ⟨g,o,none⟩)) 3).run Tryz.prog w= .ok (.pointer (some ⟨g,p,none⟩)) w:=own_field Tryz.underlying156 rfl rfl sz_Rat rfl p hp
theorem fill3 {place:Nat→Option (Nat×Nat)} {cells:Array Value} {i off:Nat} {x y z:Value} {rest:List (Nat×Value)} (hp:place i=some (off,3)) (hc:off+3≤cells.size):
 Instr.fill place cells ((i,.agg #[x,y,z])::rest)=Instr.fill place (((cells.setIfInBounds off x).setIfInBounds (off+1) y).setIfInBounds (off+2) z) rest:=by
 conv=>lhs;unfold Instr.fill
 rw[hp]
 have h1:(Value.agg #[x,y,z]).cells =#[x,y,z]:=rfl
 simp only [h1]
 rw[if_neg (by simp;omega)]
 have h2:∀f:Array Value→Value×Nat→Array Value,Array.foldl f cells #[x,y,z].zipIdx =f (f (f cells (x,0)) (y,1)) (z,2):=fun f=>rfl
 rw[h2]
 rfl
theorem bd_Orb_0123 (b00:Bool) (a01:Option Addr) (n01 c01:Nat) (a02:Option Addr) (n02 c02:Nat) (b10:Bool) (a11:Option Addr) (n11 c11:Nat) (a12:Option Addr) (n12 c12:Nat) (b20:Bool) (a21:Option Addr) (n21 c21:Nat) (a22:Option Addr) (n22 c22:Nat) (b30:Bool) (a31:Option Addr) (n31 c31:Nat) (a32:Option Addr) (n32 c32:Nat) (w:World):(Instr.build 156 #[(0,.agg #[.bool b00,.slice a01 n01 c01,.slice a02 n02 c02]),(1,.agg #[.bool b10,.slice a11 n11 c11,.slice a12 n12 c12]),(2,.agg #[.bool b20,.slice a21 n21 c21,.slice a22 n22 c22]),(3,.agg #[.bool b30,.slice a31 n31 c31,.slice a32 n32 c32])]).run Tryz.prog w= .ok (.agg #[.bool b00,.slice a01 n01 c01,.slice a02 n02 c02,.bool b10,.slice a11 n11 c11,.slice a12 n12 c12,.bool b20,.slice a21 n21 c21,.slice a22 n22 c22,.bool b30,.slice a31 n31 c31,.slice a32 n32 c32]) w:=by
 have hz:=zero_run ze_Orb w
 have h_Rat:∀w,(sizeOf 33).run Tryz.prog w= .ok 3 w:=fun w=>size_run sz_Rat w
 simp only [Instr.build,Sem.run_bind,hz,Result.andThen_ok,run_underlying Tryz.underlying156,List.mapM_toArray,List.mapM_cons,List.mapM_nil,Sem.run_map,h_Rat,Sem.run_pure]
 rw[show(Value.agg #[Value.bool false,Value.slice none 0 0,Value.slice none 0 0,Value.bool false,Value.slice none 0 0,Value.slice none 0 0,Value.bool false,Value.slice none 0 0,Value.slice none 0 0,Value.bool false,Value.slice none 0 0,Value.slice none 0 0]).cells =#[Value.bool false,Value.slice none 0 0,Value.slice none 0 0,Value.bool false,Value.slice none 0 0,Value.slice none 0 0,Value.bool false,Value.slice none 0 0,Value.slice none 0 0,Value.bool false,Value.slice none 0 0,Value.slice none 0 0] from rfl]
 rw[fill3 (off:=0) rfl (by simp),fill3 (off:=3) rfl (by simp),fill3 (off:=6) rfl (by simp),fill3 (off:=9) rfl (by simp)]
 simp only [List.setIfInBounds_toArray,List.set_cons_zero,List.set_cons_succ,Nat.reduceAdd,Nat.zero_add]
 rfl
def Orb (w:World) (v:Value) (p an s c:Rat):Prop:=
 ∃b1 a1 n1 c1 d1 m1 e1 b2 a2 n2 c2 d2 m2 e2 b3 a3 n3 c3 d3 m3 e3 b4 a4 n4 c4 d4 m4 e4,v= .agg #[.bool b1,.slice a1 n1 c1,.slice d1 m1 e1,.bool b2,.slice a2 n2 c2,.slice d2 m2 e2,.bool b3,.slice a3 n3 c3,.slice d3 m3 e3,.bool b4,.slice a4 n4 c4,.slice d4 m4 e4]∧
  Rq w (.agg #[.bool b1,.slice a1 n1 c1,.slice d1 m1 e1]) p∧Rq w (.agg #[.bool b2,.slice a2 n2 c2,.slice d2 m2 e2]) an∧Rq w (.agg #[.bool b3,.slice a3 n3 c3,.slice d3 m3 e3]) s∧Rq w (.agg #[.bool b4,.slice a4 n4 c4,.slice d4 m4 e4]) c
theorem Orb.below {w w':World} {v:Value} {p an s c:Rat} (h:Orb w v p an s c) (hb:Below w.heap.size w w'):Orb w' v p an s c:=by
 obtain⟨b1,a1,n1,c1,d1,m1,e1,b2,a2,n2,c2,d2,m2,e2,b3,a3,n3,c3,d3,m3,e3,b4,a4,n4,c4,d4,m4,e4,h0,h1,h2,h3,h4⟩:=h
 exact⟨b1,a1,n1,c1,d1,m1,e1,b2,a2,n2,c2,d2,m2,e2,b3,a3,n3,c3,d3,m3,e3,b4,a4,n4,c4,d4,m4,e4,h0,h1.below hb,h2.below hb,h3.below hb,h4.below hb⟩
def OrbPost (w:World) (p an s c:Rat) (e:Ending) (w':World):Prop:=∃v,e= .returned v∧Orb w' v p an s c∧Below w.heap.size w w'
theorem ty_Orb:Ty Tryz.prog 156 12 [.bool false,.slice none 0 0,.slice none 0 0,.bool false,.slice none 0 0,.slice none 0 0,.bool false,.slice none 0 0,.slice none 0 0,.bool false,.slice none 0 0,.slice none 0 0]:=⟨⟨_,Tryz.underlying156,rfl⟩,sz_Orb,ze_Orb⟩
end Go.Proofs.YtnljadejcfgmaaaGreatDoor
