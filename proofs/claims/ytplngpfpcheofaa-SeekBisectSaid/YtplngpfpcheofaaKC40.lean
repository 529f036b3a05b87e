import Derived.Test.YtplngpfpcheofaaKC5
import Derived.Test.YtplngpfpcheofaaRows
import Derived.Lib.SmallJoins
namespace Go.Proofs.Ytplngpfpcheofaa
open Go.RowKit
set_option maxRecDepth 100000
set_option linter.unusedVariables false
set_option maxHeartbeats 8000000
section
open Go.Joins Go.ChangeShapes Go.WideShapes Go.RowKit Go.Deep
theorem open_raw5 {H:Type} {enc:TypeId×Value→H} {w:World} {base:Nat} {spare:Nat→Bool} {held:Bool} {r:Reach} {b0:Nat} {v:Value} {d:DataW H} {p:List MemPlace}
 (hv:Value.okWide Try.prog w r b0 26 v) (h:DataW.Trod enc Try.prog w base spare held 26 v d p):
 ∃(ua ta ub tb:Value) (n m:Nat) (y0 y1 y2 y3:DataW H×List MemPlace),v= .agg #[ua,ta,ub,tb]∧
  DataW.trod enc Try.prog w base spare held n 4 [ua]=some y0∧DataW.trod enc Try.prog w base spare held n 22 [ta]=some y1∧
  DataW.trod enc Try.prog w base spare held m 4 [ub]=some y2∧DataW.trod enc Try.prog w base spare held m 22 [tb]=some y3:=by
 obtain⟨cs,rfl,hsz⟩:=okWide_struct Try.underlying26 hv
 have hC:Try.prog.cellsOf 26=4:=by kernel_rfl
 obtain⟨c0,c1,c2,c3,rfl⟩:=array4 (hsz.trans hC)
 obtain⟨fuel,hf⟩:=h
 obtain⟨x0,x1,n,_,_,h0,h1⟩:=trod_struct2 Try.underlying26 hf
 have k0:Try.prog.cellsOf 24=2:=by kernel_rfl
 have kb:Try.prog.cellsOf 4=1:=by kernel_rfl
 have ks:Try.prog.cellsOf 22=1:=by kernel_rfl
 simp only [k0,Value.cells] at h0 h1
 obtain⟨y0,y1,m0,_,_,a0,a1⟩:=trod_struct2 Try.underlying24 h0
 obtain⟨y2,y3,m1,_,_,b0,b1⟩:=trod_struct2 Try.underlying24 h1
 simp only [kb,ks] at a0 a1 b0 b1
 exact⟨c0,c1,c2,c3,m0,m1,y0,y1,y2,y3,rfl,a0,a1,b0,b1⟩
end
end Go.Proofs.Ytplngpfpcheofaa
