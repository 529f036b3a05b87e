import Derived.Test.YtpkhdajnppoinaaGreatKC23
namespace Go.Proofs.YtpkhdajnppoinaaGreat
open Go.RowKit
set_option maxRecDepth 100000
set_option linter.unusedVariables false
set_option maxHeartbeats 8000000
theorem sz_RPl:(Tryz.prog.info? 36).map (·.size)=some 6:=by kernel_rfl
theorem ze_RPl:(Tryz.prog.info? 36).bind (·.zero)=some (.agg #[.bool false,.slice none 0 0,.slice none 0 0,.bool false,.slice none 0 0,.slice none 0 0]):=by kernel_rfl
theorem ld_RPl {w:World} {g o:Nat} {cs vs:List Value} (h:Own w g cs) (hv:(cs.drop o).take 6=vs) (hl:vs.length=6):(Instr.loadAt 36 (.pointer (some ⟨g,o,none⟩))).run Tryz.prog w= .ok (.agg vs.toArray) w:=own_load h hv hl Tryz.underlying36 rfl sz_RPl
theorem st_RPl {w:World} {g o:Nat} {cs ws vs:List Value} (h:Own w g cs) (hl:vs.length=6) (ho:Nat.ble (o+6) cs.length=true) (h1:∀v∈vs,v.oneCell'=true) (hn:∀v∈vs,notInt v) (hw:cs.take o++vs++cs.drop (o+6)=ws):∃w',(∀v:Value,v.cells=vs.toArray→(Instr.storeAt 36 (.pointer (some ⟨g,o,none⟩)) v).run Tryz.prog w= .ok () w')∧Turned g w w'∧Own w' g ws:=own_store h sz_RPl hl ho h1 hn hw
theorem fa_RPl_0 {w:World} {g o p:Nat} (hp:o+0=p):(Instr.fieldAt 36 (.pointer (some ⟨g,o,none⟩)) 0).run Tryz.prog w= .ok (.pointer (some ⟨g,p,none⟩)) w:=own_field Tryz.underlying36 rfl rfl sz_RRat rfl p hp
theorem fa_RPl_1 {w:World} {g o p:Nat} (hp:o+3=p):(Instr.fieldAt 36 (.pointer (some ⟨g,o,none⟩)) 1).run Tryz.prog w= .ok (.pointer (some ⟨g,p,none⟩)) w:=own_field Tryz.underlying36 rfl rfl sz_RRat rfl p hp
theorem bd_RPl_ (w:World):(Instr.build 36 #[]).run Tryz.prog w= .ok (.agg #[.bool false,.slice none 0 0,.slice none 0 0,.bool false,.slice none 0 0,.slice none 0 0]) w:=by
 have hz:=zero_run ze_RPl w
 have h_RRat:∀w,(sizeOf 34).run Tryz.prog w= .ok 3 w:=fun w=>size_run sz_RRat w
 simp only [Instr.build,Sem.run_bind,hz,Result.andThen_ok,run_underlying Tryz.underlying36,List.mapM_toArray,List.mapM_cons,List.mapM_nil,Sem.run_map,h_RRat,Sem.run_pure]
 rfl
theorem fill3p {place:Nat→Option (Nat×Nat)} {cells:Array Value} {i off:Nat} {x y z:Value} {rest:List (Nat×Value)} (hp:place i=some (off,3)) (hc:off+3≤cells.size):
 Instr.fill place cells ((i,.agg #[x,y,z])::rest)=Instr.fill place (((cells.setIfInBounds off x).setIfInBounds (off+1) y).setIfInBounds (off+2) z) rest:=by
 conv=>lhs;unfold Instr.fill
 rw[hp]
 have h1:(Value.agg #[x,y,z]).cells =#[x,y,z]:=rfl
 simp only [h1]
 rw[if_neg (by simp;omega)]
 have h2:∀f:Array Value→Value×Nat→Array Value,Array.foldl f cells #[x,y,z].zipIdx =f (f (f cells (x,0)) (y,1)) (z,2):=fun f=>rfl
 rw[h2]
 rfl
theorem bd_RPl_01 (b00:Bool) (a01:Option Addr) (n01 c01:Nat) (a02:Option Addr) (n02 c02:Nat) (b10:Bool) (a11:Option Addr) (n11 c11:Nat) (a12:Option Addr) (n12 c12:Nat) (w:World):(Instr.build 36 #[(0,.agg #[.bool b00,.slice a01 n01 c01,.slice a02 n02 c02]),(1,.agg #[.bool b10,.slice a11 n11 c11,.slice a12 n12 c12])]).run Tryz.prog w= .ok (.agg #[.bool b00,.slice a01 n01 c01,.slice a02 n02 c02,.bool b10,.slice a11 n11 c11,.slice a12 n12 c12]) w:=by
 have hz:=zero_run ze_RPl w
 have h_RRat:∀w,(sizeOf 34).run Tryz.prog w= .ok 3 w:=fun w=>size_run sz_RRat w
 simp only [Instr.build,Sem.run_bind,hz,Result.andThen_ok,run_underlying Tryz.underlying36,List.mapM_toArray,List.mapM_cons,List.mapM_nil,Sem.run_map,h_RRat,Sem.run_pure]
 rw[show(Value.agg #[Value.bool false,Value.slice none 0 0,Value.slice none 0 0,Value.bool false,Value.slice none 0 0,Value.slice none 0 0]).cells =#[Value.bool false,Value.slice none 0 0,Value.slice none 0 0,Value.bool false,Value.slice none 0 0,Value.slice none 0 0] from rfl]
 rw[fill3p (off:=0) rfl (by simp),fill3p (off:=3) rfl (by simp)]
 simp only [List.setIfInBounds_toArray,List.set_cons_zero,List.set_cons_succ,Nat.reduceAdd,Nat.zero_add]
 rfl
end Go.Proofs.YtpkhdajnppoinaaGreat
