import Derived.Test.YtacnedknihlfnaaKB9
import Derived.Deep.LoopGhost
import Derived.OpenShut
namespace Go.Proofs.Ytacnedknihlfnaa
open Go.RowKit
set_option maxRecDepth 100000
set_option linter.unusedVariables false
set_option maxHeartbeats 8000000
def Lim (N k:Nat):Prop:=N<B32^k
theorem Lim.add {N M a b:Nat} (h1:Lim N a) (h2:Lim M b) (c:Nat) (ha:a<c) (hb:b<c):Lim (N+M) c:=by
 have k1:N<B32^(c-1):=Nat.lt_of_lt_of_le h1 (Nat.pow_le_pow_right B32_pos (by omega))
 have k2:M<B32^(c-1):=Nat.lt_of_lt_of_le h2 (Nat.pow_le_pow_right B32_pos (by omega))
 have:=add_small k1 k2
 rwa[show c-1+1=c from by omega] at this
theorem Lim.mul {N M a b:Nat} (h1:Lim N a) (h2:Lim M b):Lim (N*M) (a+b):=by
 unfold Lim at*
 rw[Nat.pow_add]
 exact Nat.mul_lt_mul'' h1 h2
theorem Lim.le {N M a:Nat} (h:Lim M a) (hl:N≤M):Lim N a:=Nat.lt_of_le_of_lt hl h
theorem Lim.up {N a:Nat} (h:Lim N a) (b:Nat) (hl:a≤b):Lim N b:=Nat.lt_of_lt_of_le h (Nat.pow_le_pow_right B32_pos hl)
theorem Lim.dl {N a:Nat} (h:Lim N a) (c:Nat) (hc:a≤c):dl B32 N≤c:=Nat.le_trans (dl_le B32_two h) hc
theorem Lim.of64 {N:Nat} (h:N<18446744073709551616):Lim N 2:=Nat.lt_of_lt_of_le h (by decide)
end Go.Proofs.Ytacnedknihlfnaa
