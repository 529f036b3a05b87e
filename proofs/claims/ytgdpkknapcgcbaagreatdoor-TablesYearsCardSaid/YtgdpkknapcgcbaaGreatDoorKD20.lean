import Derived.Test.YtgdpkknapcgcbaaGreatDoorKD14
namespace Go.Proofs.YtgdpkknapcgcbaaGreatDoor
open Go.RowKit
set_option maxRecDepth 100000
set_option linter.unusedVariables false
set_option maxHeartbeats 8000000
theorem mt {place:Nat->Option (Nat×Nat)} {cells:Array Value} {i off:Nat} {k:IntKind} {z:Int} {rest:List (Nat×Value)} (hp:place i=some (off,1)) (hc:off+1<=cells.size):
 Instr.fill place cells ((i,.int k z)::rest)=Instr.fill place (cells.setIfInBounds off (.int k z)) rest:=by
 conv=>lhs;unfold Instr.fill
 rw[hp]
 have h1:(Value.int k z).cells =#[.int k z]:=rfl
 simp only [h1]
 rw[if_neg (by simp;omega)]
 rfl
theorem Hk:(Tryz.prog.info? 245).map (·.size)=some 6:=by kernel_rfl
theorem Cm:(Tryz.prog.info? 245).bind (·.zero)=some (.agg #[iv 0,iv 0,iv 0,iv 0,iv 0,iv 0]):=by kernel_rfl
theorem sy (z0 z1 z2 z3 z4 z5:Int) (w:World):(Instr.build 245 #[(0,iv z0),(1,iv z1),(2,iv z2),(3,iv z3),(4,iv z4),(5,iv z5)]).run Tryz.prog w= .ok (.agg #[iv z0,iv z1,iv z2,iv z3,iv z4,iv z5]) w:=by
 have hz:=cW Cm w
 have hs:∀w,(sizeOf 2).run Tryz.prog w= .ok 1 w:=fun w=>a8 cD w
 simp only [Instr.build,Sem.run_bind,hz,Result.andThen_ok,run_underlying Tryz.underlying245,hs]
 rw[show(Value.agg #[Value.int .i64 0,Value.int .i64 0,Value.int .i64 0,Value.int .i64 0,Value.int .i64 0,Value.int .i64 0]).cells =#[Value.int .i64 0,Value.int .i64 0,Value.int .i64 0,Value.int .i64 0,Value.int .i64 0,Value.int .i64 0] from rfl]
 rw[mt (off:=0) rfl (by simp),mt (off:=1) rfl (by simp),mt (off:=2) rfl (by simp),mt (off:=3) rfl (by simp),mt (off:=4) rfl (by simp),mt (off:=5) rfl (by simp)]
 simp only [List.setIfInBounds_toArray,List.set_cons_zero,List.set_cons_succ]
 rfl
theorem G6 {w:World} {g:Nat} {i:Int} (h0:0<=i) (h1:i<6):(Instr.indexAt 245 (.pointer (some ⟨g,0,none⟩)) (iv i)).run Tryz.prog w= .ok (.pointer (some ⟨g,i.toNat,none⟩)) w:=by
 have hs:∀w,(sizeOf 2).run Tryz.prog w= .ok 1 w:=fun w=>a8 cD w
 simp[Instr.indexAt,asIntOf,Instr.sureAddr,run_underlying Tryz.underlying245,Sem.run_bind,h0,h1,Addr.add_mid,hs]
theorem Hg {a:Act} {i0 i1 i2 i3 i4 i5:Nat} {x0 x1 x2 x3 x4 x5:Operand} {u0 u1 u2 u3 u4 u5:Value} (h0:a.eval x0=u0) (h1:a.eval x1=u1) (h2:a.eval x2=u2) (h3:a.eval x3=u3) (h4:a.eval x4=u4) (h5:a.eval x5=u5):(#[(i0,x0),(i1,x1),(i2,x2),(i3,x3),(i4,x4),(i5,x5)].map fun(p:Nat×Operand)=>(p.1,a.eval p.2))=#[(i0,u0),(i1,u1),(i2,u2),(i3,u3),(i4,u4),(i5,u5)]:=by simp[h0,h1,h2,h3,h4,h5]
theorem Hy:Ty Tryz.prog 245 6 [iv 0,iv 0,iv 0,iv 0,iv 0,iv 0]:=⟨⟨_,Tryz.underlying245,rfl⟩,Hk,Cm⟩
end Go.Proofs.YtgdpkknapcgcbaaGreatDoor
