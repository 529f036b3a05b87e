import Derived.Test.YtgdpkknapcgcbaaGreatDoorKD1
import Derived.Laws.BitsAllLaws
namespace Go.Proofs.YtgdpkknapcgcbaaGreatDoor
open Go.RowKit
set_option maxRecDepth 100000
set_option linter.unusedVariables false
set_option maxHeartbeats 8000000
section
section
theorem Hf {v:Nat} (h:v<4294967296):v/2147483648=(v.testBit 31).toNat :=by
 rw[Nat.testBit_eq_decide_div_mod_eq]
 have e:(2:Nat)^31=2147483648:=by decide
 rw[e]
 by_cases h1:v<2147483648
 ·rw[Nat.div_eq_of_lt h1];rfl
 ·have:v/2147483648=1:=by omega
  rw[this];rfl
theorem oq {v:Nat} (h:v<4294967296):v.testBit 31=decide (2147483648<=v):=by
 rw[Nat.testBit_eq_decide_div_mod_eq]
 have e:(2:Nat)^31=2147483648:=by decide
 rw[e,decide_eq_decide]
 omega
theorem Gh:IntKind.u32.max=((4294967295:Nat):Int):=by decide
theorem Ak (x y c:Nat) (hx:x<4294967296) (hy:y<4294967296) (hc:c<=1):
 bits BinOp.or IntKind.u32 (bits BinOp.and IntKind.u32 (bits BinOp.xor IntKind.u32 IntKind.u32.max (x:Int)) (y:Int))
  (bits BinOp.and IntKind.u32 (bits BinOp.xor IntKind.u32 IntKind.u32.max (bits BinOp.xor IntKind.u32 (x:Int) (y:Int))) (((x:Int)-(y:Int)-(c:Int))%4294967296))/2147483648=
  ((if x<y+c then 1 else 0:Nat):Int):=by
 obtain⟨d,hd⟩:∃d:Nat,d=(x+8589934592-y-c)%4294967296:=⟨_,rfl⟩
 have hd1:d<4294967296:=by omega
 have e1:((x:Int)-(y:Int)-(c:Int))%4294967296=(d:Int):=by omega
 rw[e1,Gh,u32_xor_nat _ _ (by decide) hx,u32_xor_nat _ _ hx hy]
 have p1:x^^^y<4294967296:=Nat.xor_lt_two_pow (n:=32) hx hy
 have p2:4294967295^^^x<4294967296:=Nat.xor_lt_two_pow (n:=32) (by decide) hx
 rw[u32_xor_nat _ _ (by decide) p1,u32_and_nat _ _ p2 hy]
 have p3:4294967295^^^(x^^^y)<4294967296:=Nat.xor_lt_two_pow (n:=32) (by decide) p1
 rw[u32_and_nat _ _ p3 hd1]
 have p4:(4294967295^^^x) &&& y<4294967296:=Nat.and_lt_two_pow (n:=32) _ hy
 have p5:(4294967295^^^(x^^^y)) &&& d<4294967296:=Nat.and_lt_two_pow (n:=32) _ hd1
 rw[u32_or_nat _ _ p4 p5]
 have p6:(4294967295^^^x) &&& y |||(4294967295^^^(x^^^y)) &&& d<4294967296:=Nat.or_lt_two_pow (n:=32) p4 p5
 have key:((4294967295^^^x) &&& y |||(4294967295^^^(x^^^y)) &&& d)/2147483648=(if x<y+c then 1 else 0):=by
  rw[Hf p6]
  simp only [Nat.testBit_or,Nat.testBit_and,Nat.testBit_xor]
  rw[oq hx,oq hy,oq hd1,show Nat.testBit 4294967295 31=true by decide]
  by_cases a:2147483648<=x <;> by_cases b:2147483648<=y <;> by_cases k:x<y+c <;> by_cases q:2147483648<=d <;> simp[a,b,k,q] <;> omega
 rw[<-key];rfl
theorem nO (a b:Nat) (ha:a<4294967296) (hb:b<4294967296):bits BinOp.or IntKind.u64 ((a:Int)*4294967296) (b:Int)=((a*4294967296+b:Nat):Int):=by
 have e:(a:Int)*4294967296=((a*4294967296:Nat):Int):=by omega
 rw[e,u64_or_nat _ _ (by omega) (by omega),nat_join 32 _ _ (by omega) (by omega)]
theorem nb {n:Int} (h0:0<=n) (h1:n<18446744073709551616):IntKind.u64.wrap n=n:=by
 rw[IntKind.wrap_u64];omega
theorem tQ (a r:Nat):(a:Int)/2^r=((a/2^r:Nat):Int):=by push_cast;rfl
end
section
end
end
end Go.Proofs.YtgdpkknapcgcbaaGreatDoor
