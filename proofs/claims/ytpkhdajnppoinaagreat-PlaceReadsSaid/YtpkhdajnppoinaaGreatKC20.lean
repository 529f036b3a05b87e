import Derived.Test.YtpkhdajnppoinaaGreatKC2
import Derived.Test.YtpkhdajnppoinaaGreatKC19
import Derived.Deep.RegionHeld3
namespace Go.Proofs.YtpkhdajnppoinaaGreat
open Go.RowKit
set_option maxRecDepth 100000
set_option linter.unusedVariables false
set_option maxHeartbeats 8000000
section
section
variable {P:Program} {ops:Array Oper} {Q:Exit→Act→World→Prop}
end
theorem Wz.form {w:World} {v:Value} {z:Int} (h:Wz w v z):∃(b:Bool) (ad:Option Addr) (n cap:Nat),v= .agg #[.bool b,.slice ad n cap]:=by
 obtain⟨b,ad,n,cap,_,h1,_⟩:=h.shape
 exact⟨b,ad,n,cap,h1⟩
end
theorem limz_neg {x:Int} {a:Nat} (h:Lim x.natAbs a):Lim (-x).natAbs a:=by rw[Int.natAbs_neg];exact h
theorem limz_mul {x y:Int} {a b:Nat} (h1:Lim x.natAbs a) (h2:Lim y.natAbs b):Lim (x*y).natAbs (a+b):=by rw[Int.natAbs_mul];exact h1.mul h2
end Go.Proofs.YtpkhdajnppoinaaGreat
