import Derived.Test.YtplngpfpcheofaaGreatDoorKE11
namespace Go.Proofs.YtplngpfpcheofaaGreatDoor
open Go.RowKit
set_option maxRecDepth 100000
set_option linter.unusedVariables false
set_option maxHeartbeats 8000000
def uJ (w:World) (e:Ending) (w':World):Prop:=e= .returned (.int .i64 0)∧Below w.heap.size w w'
def Lim (N k:Nat):Prop:=N<B32^k
theorem Lim.add {N M a b:Nat} (h1:Lim N a) (h2:Lim M b) (c:Nat) (ha:a<c) (hb:b<c):Lim (N+M) c:=by
 have k1:N<B32^(c-1):=Nat.lt_of_lt_of_le h1 (Nat.pow_le_pow_right aL (by omega))
 have k2:M<B32^(c-1):=Nat.lt_of_lt_of_le h2 (Nat.pow_le_pow_right aL (by omega))
 have:=sU k1 k2
 rwa[show c-1+1=c from by omega] at this
theorem Lim.mul {N M a b:Nat} (h1:Lim N a) (h2:Lim M b):Lim (N*M) (a+b):=by
 unfold Lim at*
 rw[Nat.pow_add]
 exact Nat.mul_lt_mul'' h1 h2
theorem Lim.le {N M a:Nat} (h:Lim M a) (hl:N≤M):Lim N a:=Nat.lt_of_le_of_lt hl h
theorem Lim.up {N a:Nat} (h:Lim N a) (b:Nat) (hl:a≤b):Lim N b:=Nat.lt_of_lt_of_le h (Nat.pow_le_pow_right aL hl)
theorem Lim.dl {N a:Nat} (h:Lim N a) (c:Nat) (hc:a≤c):dl B32 N≤c:=Nat.le_trans (dK aF h) hc
theorem Lim.dh {N a:Nat} (h:Lim N a) (c:Nat) (hc:2*a≤c):Go.Proofs.YtplngpfpcheofaaGreatDoor.dl 65536 N≤c:=by
 refine Nat.le_trans (dK (b:=65536) (by omega) (k:=2*a) ?_) hc
 rw[show(65536:Nat)^(2*a)=B32^a from by rw[Nat.pow_mul];rfl]
 exact h
theorem Lim.of64 {N:Nat} (h:N<18446744073709551616):Lim N 2:=Nat.lt_of_lt_of_le h (by decide)
theorem Nt.shape {w:World} {v:Value} {N:Nat} (h:Nt w v N):∃ad n cap,v= .slice ad n cap:=by
 obtain⟨xs,_,_,ad,cap,h1,_⟩:=h
 exact⟨ad,_,cap,h1⟩
theorem cV.sq {w w':World} (h:cV w w') {k:IntKind} {v:Value} {xs:List Nat} (s:Sq w k v xs):Sq w' k v xs:=by
 obtain⟨ad,cap,h1,h2,h3⟩:=s
 exact⟨ad,cap,h1,h _ _ _ h2,h3⟩
theorem cV.dg {w w':World} (h:cV w w') {k:IntKind} {b:Nat} {v:Value} {n:Nat} (s:Dg w k b v n):Dg w' k b v n:=h.sq s
end Go.Proofs.YtplngpfpcheofaaGreatDoor
