import Derived.Test.YtnljadejcfgmaaaGreatDoorKC3
import Derived.Test.YtnljadejcfgmaaaGreatDoorKC14
import Derived.Deep.RegionHeld3
namespace Go.Proofs.YtnljadejcfgmaaaGreatDoor
open Go.RowKit
set_option maxRecDepth 100000
set_option linter.unusedVariables false
set_option maxHeartbeats 8000000
section
section
variable {P:Program} {ops:Array Oper} {Q:Exit→Act→World→Prop}
end
theorem Wz.form {w:World} {v:Value} {z:Int} (h:Wz w v z):∃(b:Bool) (ad:Option Addr) (n cap:Nat),v= .agg #[.bool b,.slice ad n cap]:=by
 obtain⟨b,ad,n,cap,_,h1,_⟩:=h.shape
 exact⟨b,ad,n,cap,h1⟩
end
theorem limz_add {x y:Int} {a b:Nat} (h1:Lim x.natAbs a) (h2:Lim y.natAbs b) (c:Nat) (ha:a<c) (hb:b<c):Lim (x+y).natAbs c:=(h1.add h2 c ha hb).le (Int.natAbs_add_le x y)
theorem limz_neg {x:Int} {a:Nat} (h:Lim x.natAbs a):Lim (-x).natAbs a:=by rw[Int.natAbs_neg];exact h
theorem limz_mul {x y:Int} {a b:Nat} (h1:Lim x.natAbs a) (h2:Lim y.natAbs b):Lim (x*y).natAbs (a+b):=by rw[Int.natAbs_mul];exact h1.mul h2
theorem Dg.form {w:World} {k:IntKind} {b:Nat} {v:Value} {n:Nat} (h:Dg w k b v n):∃ad m c,v= .slice ad m c:=by
 obtain⟨ad,cap,rfl,_⟩:=h
 exact⟨ad,_,cap,rfl⟩
theorem Nt.form {w:World} {v:Value} {n:Nat} (h:Nt w v n):∃ad m c,v= .slice ad m c:=h.shape
theorem Dg.keep {w w':World} {k:IntKind} {b:Nat} {v:Value} {n:Nat} (h:Dg w k b v n) (kp:Keep w w'):Dg w' k b v n:=kp.dg h
theorem Wc.keep {w w':World} {v:Value} {z:Int} (h:Wc w v z) (kp:Keep w w'):Wc w' v z:=kp.wc h
theorem Rz.keep {w w':World} {v:Value} {z:Int} (h:Rz w v z) (kp:Keep w w'):Rz w' v z:=kp.rz h
theorem Wc.abs {w:World} {b:Bool} {a:Value} {z:Int} (h:Wc w (.agg #[.bool b,a]) z):Dg w .u32 B32 a z.natAbs:=by
 obtain⟨a',h1,h2⟩:=h
 injection h1 with h1
 simp only [Array.mk.injEq,List.cons.injEq,and_true] at h1
 obtain⟨_,rfl⟩:=h1
 exact h2
theorem Wc.neg {w:World} {b:Bool} {a:Value} {z:Int} (h:Wc w (.agg #[.bool b,a]) z):b=decide (z<0):=by
 obtain⟨a',h1,h2⟩:=h
 injection h1 with h1
 simp only [Array.mk.injEq,List.cons.injEq,and_true,Value.bool.injEq] at h1
 exact h1.1
theorem Wz.abso {w:World} {b:Bool} {a:Value} {z:Int} (h:Wz w (.agg #[.bool b,a]) z):Nt w a z.natAbs:=by
 obtain⟨b',a',N,h1,h2,h3⟩:=h
 injection h1 with h1
 simp only [Array.mk.injEq,List.cons.injEq,and_true] at h1
 obtain⟨_,rfl⟩:=h1
 rw[h3,sg_natAbs];exact h2
theorem Rz.abs {w:World} {b:Bool} {a:Value} {z:Int} (h:Rz w (.agg #[.bool b,a]) z):Dg w .i64 65536 a z.natAbs:=by
 obtain⟨a',h1,h2⟩:=h
 injection h1 with h1
 simp only [Array.mk.injEq,List.cons.injEq,and_true] at h1
 obtain⟨_,rfl⟩:=h1
 exact h2
def Wg (w:World) (v:Value) (b:Bool) (N:Nat):Prop:=∃s,v= .agg #[.bool b,s]∧Dg w .u32 B32 s N
theorem Wg.mk {w:World} {s:Value} {b:Bool} {N:Nat} (h:Dg w .u32 B32 s N):Wg w (.agg #[.bool b,s]) b N:=⟨s,rfl,h⟩
theorem Wg.below {w w':World} {v:Value} {b:Bool} {N:Nat} (h:Wg w v b N) (hb:Below w.heap.size w w'):Wg w' v b N:=by
 obtain⟨s,rfl,h⟩:=h;exact⟨s,rfl,h.below hb⟩
theorem Wg.wz {w:World} {v:Value} {b:Bool} {N:Nat} (h:Wg w v b N):Wz w v (sg b N):=by
 obtain⟨s,rfl,h⟩:=h;exact⟨b,s,N,rfl,h.nt,rfl⟩
theorem Wz.mk {w:World} {s:Value} {b:Bool} {N:Nat} (h:Nt w s N):Wz w (.agg #[.bool b,s]) (sg b N):=⟨b,s,N,rfl,h,rfl⟩
theorem Dg.nil (w:World):Dg w .u32 B32 (.slice none 0 0) 0:=Dg.zero _ _ _ _ (by unfold maxLen;omega) (fun _=>rfl)
theorem sg_lim {N k:Nat} (b:Bool) (h:Lim N k):Lim (sg b N).natAbs k:=by rw[sg_natAbs];exact h
theorem limz_of {n:Int} (h:n.natAbs<18446744073709551616):Lim n.natAbs 2:=Lim.of64 h
theorem dec_f {p:Prop} [Decidable p] (h:¬p):decide p=false:=decide_eq_false h
theorem dec_t {p:Prop} [Decidable p] (h:p):decide p=true:=decide_eq_true h
theorem eq0 {x:Int} (h:x=0):decide (x=0)=true:=by subst h;rfl
end Go.Proofs.YtnljadejcfgmaaaGreatDoor
