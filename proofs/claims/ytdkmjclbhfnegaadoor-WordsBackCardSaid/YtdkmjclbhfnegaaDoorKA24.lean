import Derived.Test.YtdkmjclbhfnegaaDoorKA23
namespace Go.Proofs.YtdkmjclbhfnegaaDoor
open Go.RowKit
set_option maxRecDepth 100000
set_option linter.unusedVariables false
set_option maxHeartbeats 8000000
theorem Blk.grown {w w':World} {row:Option Nat} {g:Nat} {cs:List Value} (h:Blk w g cs) (hg:w.grownBy w' row) (hne:some g≠row):Blk w' g cs:=by
 have hlt:=h.lt
 obtain⟨T,h1⟩:=h
 exact⟨T,by rw[hg.block g hlt hne];exact h1⟩
theorem below_grownI {w w':World} {row:Option Nat} {base:Nat} (hg:w.grownBy w' row) (hb:∀g,row=some g→base≤g) (hw:base≤w.heap.size):Below base w w':=
 ⟨hg.os,hg.tape,hg.output,hg.size,fun k hk=>hg.block k (by omega) (fun e=>by have:=hb k e.symm;omega)⟩
end Go.Proofs.YtdkmjclbhfnegaaDoor
