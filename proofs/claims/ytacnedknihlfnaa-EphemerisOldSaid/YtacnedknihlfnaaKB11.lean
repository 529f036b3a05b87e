import Derived.Test.YtacnedknihlfnaaKB10
namespace Go.Proofs.Ytacnedknihlfnaa
open Go.RowKit
set_option maxRecDepth 100000
set_option linter.unusedVariables false
set_option maxHeartbeats 8000000
theorem Nt.shape {w:World} {v:Value} {N:Nat} (h:Nt w v N):∃ad n cap,v= .slice ad n cap:=by
 obtain⟨xs,_,_,ad,cap,h1,_⟩:=h
 exact⟨ad,_,cap,h1⟩
theorem Keep.sq {w w':World} (h:Keep w w') {k:IntKind} {v:Value} {xs:List Nat} (s:Sq w k v xs):Sq w' k v xs:=by
 obtain⟨ad,cap,h1,h2,h3⟩:=s
 exact⟨ad,cap,h1,h _ _ _ h2,h3⟩
theorem Keep.dg {w w':World} (h:Keep w w') {k:IntKind} {b:Nat} {v:Value} {n:Nat} (s:Dg w k b v n):Dg w' k b v n:=h.sq s
end Go.Proofs.Ytacnedknihlfnaa
