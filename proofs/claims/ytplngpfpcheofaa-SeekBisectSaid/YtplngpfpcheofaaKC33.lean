import Derived.Test.YtplngpfpcheofaaKC28
import Derived.Test.YtplngpfpcheofaaKC32
namespace Go.Proofs.Ytplngpfpcheofaa
open Go.RowKit
set_option maxRecDepth 100000
set_option linter.unusedVariables false
set_option maxHeartbeats 8000000
section
section
def ykf (h:Rat):Nat→Nat→Nat
 |0,k=>k
 |n+1,k=>if h≤(spk ((k:Int)+1):Rat) then k else ykf h n (k+1)
def yk (h:Rat):Nat:=ykf h 24 0
def ay (h:Rat):Rat:=if yk h<24 then(h-(spk (yk h):Rat))/((spk ((yk h:Nat)+1:Int)-spk (yk h):Int):Rat)+((yk h:Nat):Int) else((24:Int):Rat)
def wd:Rat:=((360:Int):Rat)/((96:Int):Rat)
end
section
end
end
end Go.Proofs.Ytplngpfpcheofaa
