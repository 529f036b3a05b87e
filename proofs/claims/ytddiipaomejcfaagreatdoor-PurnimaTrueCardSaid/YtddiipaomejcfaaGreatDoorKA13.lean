import Derived.Test.YtddiipaomejcfaaGreatDoorKA7
import Derived.Test.YtddiipaomejcfaaGreatDoorRows
import Derived.Lib.SmallJoins
namespace Go.Proofs.YtddiipaomejcfaaGreatDoor
open Go.RowKit
set_option maxRecDepth 100000
set_option linter.unusedVariables false
set_option maxHeartbeats 8000000
section
open Go.Joins Go.ChangeShapes Go.WideShapes Go.RowKit Go.Deep
theorem zS {α:Type} {cs:Array α} (h:cs.size=5):∃a b c d e,cs=#[a,b,c,d,e]:=by
 obtain⟨l⟩:=cs
 match l,h with
 |[a,b,c,d,e],_=>exact⟨a,b,c,d,e,rfl⟩
theorem open_date {H:Type} {enc:TypeId×Value->H} {w:World} {base:Nat} {spare:Nat->Bool} {held:Bool} {r:Reach} {b0:Nat} {v:Value} {d:DataW H} {p:List MemPlace}
 (hv:Value.okWide Tryz.prog w r b0 29 v) (h:DataW.Trod enc Tryz.prog w base spare held 29 v d p):
 ∃(y m:Int) (l:Bool) (x:Int) (u:Bool),v= .agg #[iv y,iv m,.bool l,iv x,.bool u]/\(Lit.int .i64 y).wf =true/\(Lit.int .i64 m).wf =true/\(Lit.int .i64 x).wf =true:=by
 obtain⟨cs,rfl,hsz⟩:=okWide_struct Tryz.underlying29 hv
 have hC:Tryz.prog.cellsOf 29=5:=by kernel_rfl
 obtain⟨c0,c1,c2,c3,c4,rfl⟩:=zS (hsz.trans hC)
 obtain⟨fuel,hf⟩:=h
 obtain⟨xs,n,_,_,_,hlen,hg⟩:=DataW.trod_struct Tryz.underlying29 hf
 have n0:Tryz.prog.cellsOf 2=1:=by kernel_rfl
 have n1:Tryz.prog.cellsOf 3=1:=by kernel_rfl
 have n2:Tryz.prog.cellsOf 4=1:=by kernel_rfl
 match xs,hlen with
 |[y0,y1,y2,y3,y4],_=>
  have g0:=hg 0 _ rfl
  have g1:=hg 1 _ rfl
  have g2:=hg 2 _ rfl
  have g3:=hg 3 _ rfl
  have g4:=hg 4 _ rfl
  simp only [Value.cells] at g0 g1 g2 g3 g4
  obtain⟨e0,hc0,_,w0⟩:=DataW.trod_int Tryz.underlying2 g0
  obtain⟨e1,hc1,_,w1⟩:=DataW.trod_int Tryz.underlying3 g1
  obtain⟨e2,hc2,_⟩:=DataW.trod_bool Tryz.underlying4 g2
  obtain⟨e3,hc3,_,w3⟩:=DataW.trod_int Tryz.underlying3 g3
  obtain⟨e4,hc4,_⟩:=DataW.trod_bool Tryz.underlying4 g4
  obtain rfl:c0= iv e0:=by simpa[n0,n1,n2] using hc0
  obtain rfl:c1= iv e1:=by simpa[n0,n1,n2] using hc1
  obtain rfl:c2= .bool e2:=by simpa[n0,n1,n2] using hc2
  obtain rfl:c3= iv e3:=by simpa[n0,n1,n2] using hc3
  obtain rfl:c4= .bool e4:=by simpa[n0,n1,n2] using hc4
  exact⟨e0,e1,e2,e3,e4,rfl,w0,w1,w3⟩
end
end Go.Proofs.YtddiipaomejcfaaGreatDoor
