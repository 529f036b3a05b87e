import Derived.Test.YtnljadejcfgmaaaGreatDoorKA5
import Derived.Deep.LoopGhost
import Derived.OpenShut
import Derived.Deep.DeepCutAuto
namespace Go.Proofs.YtnljadejcfgmaaaGreatDoor
open Go.RowKit
set_option maxRecDepth 100000
set_option linter.unusedVariables false
set_option maxHeartbeats 8000000
section
section
end
section
end
section
theorem Rd.drop {w:World} {k:IntKind} {b off:Nat} {xs:List Nat} (h:Rd w k (some ⟨b,off,none⟩) xs) (n:Nat):Rd w k (some ⟨b,off+n,none⟩) (xs.drop n):=by
 refine⟨fun i hi=>?_⟩
 simp at hi
 obtain⟨b',off',ha,hlt,hc⟩:=h.cell (n+i) (by omega)
 simp at ha
 obtain⟨rfl,rfl⟩:=ha
 exact⟨b,off+n,rfl,hlt,by rw[lg_drop,Nat.add_assoc];exact hc⟩
end
end
section
section
end
section
theorem c3_range (p q:Nat): -1≤c3 p q∧c3 p q≤1:=by unfold c3;split <;> (try split) <;> omega
theorem add_small {N M m:Nat} (h1:N<B32^m) (h2:M<B32^m):N+M<B32^(m+1):=by
 rw[Nat.pow_succ,B32_eq];rw[B32_eq] at h1 h2;omega
end
section
end
end
section
section
end
section
end
end
section
section
end
section
end
end
def Lim (N k:Nat):Prop:=N<B32^k
theorem Lim.add {N M a b:Nat} (h1:Lim N a) (h2:Lim M b) (c:Nat) (ha:a<c) (hb:b<c):Lim (N+M) c:=by
 have k1:N<B32^(c-1):=Nat.lt_of_lt_of_le h1 (Nat.pow_le_pow_right B32_pos (by omega))
 have k2:M<B32^(c-1):=Nat.lt_of_lt_of_le h2 (Nat.pow_le_pow_right B32_pos (by omega))
 have:=add_small k1 k2
 rwa[show c-1+1=c from by omega] at this
theorem Lim.mul {N M a b:Nat} (h1:Lim N a) (h2:Lim M b):Lim (N*M) (a+b):=by
 unfold Lim at*
 rw[Nat.pow_add]
 exact Nat.mul_lt_mul'' h1 h2
theorem Lim.le {N M a:Nat} (h:Lim M a) (hl:N≤M):Lim N a:=Nat.lt_of_le_of_lt hl h
theorem Lim.up {N a:Nat} (h:Lim N a) (b:Nat) (hl:a≤b):Lim N b:=Nat.lt_of_lt_of_le h (Nat.pow_le_pow_right B32_pos hl)
theorem Lim.dl {N a:Nat} (h:Lim N a) (c:Nat) (hc:a≤c):dl B32 N≤c:=Nat.le_trans (dl_le B32_two h) hc
theorem Lim.of64 {N:Nat} (h:N<18446744073709551616):Lim N 2:=Nat.lt_of_lt_of_le h (by decide)
theorem Nt.shape {w:World} {v:Value} {N:Nat} (h:Nt w v N):∃ad n cap,v= .slice ad n cap:=by
 obtain⟨xs,_,_,ad,cap,h1,_⟩:=h
 exact⟨ad,_,cap,h1⟩
theorem Keep.sq {w w':World} (h:Keep w w') {k:IntKind} {v:Value} {xs:List Nat} (s:Sq w k v xs):Sq w' k v xs:=by
 obtain⟨ad,cap,h1,h2,h3⟩:=s
 exact⟨ad,cap,h1,h _ _ _ h2,h3⟩
theorem Keep.dg {w w':World} (h:Keep w w') {k:IntKind} {b:Nat} {v:Value} {n:Nat} (s:Dg w k b v n):Dg w' k b v n:=h.sq s
end Go.Proofs.YtnljadejcfgmaaaGreatDoor
