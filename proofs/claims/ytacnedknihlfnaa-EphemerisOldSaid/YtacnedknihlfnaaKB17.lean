import Derived.Test.YtacnedknihlfnaaKB2
import Derived.Test.YtacnedknihlfnaaKB16
import Derived.Deep.RegionHeld3
import Derived.Deep.LoopGhost
namespace Go.Proofs.Ytacnedknihlfnaa
open Go.RowKit
set_option maxRecDepth 100000
set_option linter.unusedVariables false
set_option maxHeartbeats 8000000
section
section
variable {P:Program} {ops:Array Oper} {Q:Exit→Act→World→Prop}
end
theorem Wz.form {w:World} {v:Value} {z:Int} (h:Wz w v z):∃(b:Bool) (ad:Option Addr) (n cap:Nat),v= .agg #[.bool b,.slice ad n cap]:=by
 obtain⟨b,ad,n,cap,_,h1,_⟩:=h.shape
 exact⟨b,ad,n,cap,h1⟩
end
end Go.Proofs.Ytacnedknihlfnaa
