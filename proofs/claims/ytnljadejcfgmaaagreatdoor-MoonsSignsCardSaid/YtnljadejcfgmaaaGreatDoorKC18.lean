import Derived.Test.YtnljadejcfgmaaaGreatDoorKC17
namespace Go.Proofs.YtnljadejcfgmaaaGreatDoor
open Go.RowKit
set_option maxRecDepth 100000
set_option linter.unusedVariables false
set_option maxHeartbeats 8000000
section
section
end
section
end
section
theorem qc_def (a b:Rat):qc a b=if a<b then -1 else if b<a then 1 else 0:=by
 unfold qc ci
 simp only [←Rat.lt_iff]
theorem sz_bd (z:Int): -1≤sz z∧sz z≤1:=by unfold sz;split <;> (try split) <;> omega
theorem sz_def (q:Rat):sz q.num=if q<0 then -1 else if 0<q then 1 else 0:=by
 have h1:q<0↔q.num<0:=by rw[Rat.lt_iff];simp
 have h2:0<q↔0<q.num:=by rw[Rat.lt_iff];simp
 simp only [h1,h2]
 unfold sz
 split
 ·rename_i e;rw[e];simp
 ·split
  ·rfl
  ·rw[if_pos (by omega)]
theorem small_mul {a b:Int} (ha: -1≤a∧a≤1) (hb: -1≤b∧b≤1): -9223372036854775808≤a*b∧a*b≤9223372036854775807:=by
 obtain⟨a1,a2⟩:=ha
 obtain⟨b1,b2⟩:=hb
 have h:a= -1∨a=0∨a=1:=by omega
 rcases h with rfl|rfl|rfl <;> constructor <;> omega
end
end
theorem limz_fdiv {x:Int} {a:Nat} (y:Int) (h:Lim x.natAbs a):Lim (x.fdiv y).natAbs (a+1):=by
 refine Nat.lt_of_le_of_lt (m:=x.natAbs+1) ?_ ?_
 ·rw[Int.fdiv_eq_ediv]
  have h1:(x/y).natAbs ≤x.natAbs:=Int.natAbs_ediv_le_natAbs x y
  split <;> omega
 ·have h1:B32^a+1≤B32^(a+1):=by
   rw[Nat.pow_succ]
   have h2:0<B32^a:=Nat.pow_pos (by decide)
   have h3:B32^a*2≤B32^a*B32:=Nat.mul_le_mul_left _ (by decide)
   omega
  unfold Lim at h
  omega
theorem tq (z y:Int) (h:y≠0):∃r,z=sg (decide (z<0) !=decide (y<0)) (z.natAbs/y.natAbs)*y+r∧r.natAbs<y.natAbs∧(0≤z→0≤r)∧(z≤0→r≤0):=by
 have h1:=Nat.div_add_mod z.natAbs y.natAbs
 have h2:=Nat.mod_lt z.natAbs (show 0<y.natAbs by omega)
 generalize z.natAbs/y.natAbs=q at*
 generalize z.natAbs%y.natAbs=r at*
 have h3:((y.natAbs*q:Nat):Int)=(y.natAbs:Int)*(q:Int):=by simp
 by_cases hz:z<0 <;> by_cases hy:y<0
 ·refine⟨-(r:Int),?_,by omega,by omega,by omega⟩
  rw[decide_eq_true hz,decide_eq_true hy]
  have e:(y.natAbs:Int)= -y:=by omega
  rw[e,Int.neg_mul] at h3
  show z=(q:Int)*y+_
  rw[Int.mul_comm];omega
 ·refine⟨-(r:Int),?_,by omega,by omega,by omega⟩
  rw[decide_eq_true hz,decide_eq_false hy]
  have e:(y.natAbs:Int)=y:=by omega
  rw[e] at h3
  show z= -(q:Int)*y+_
  rw[Int.neg_mul,Int.mul_comm];omega
 ·refine⟨(r:Int),?_,by omega,by omega,by omega⟩
  rw[decide_eq_false hz,decide_eq_true hy]
  have e:(y.natAbs:Int)= -y:=by omega
  rw[e,Int.neg_mul] at h3
  show z= -(q:Int)*y+_
  rw[Int.neg_mul,Int.mul_comm];omega
 ·refine⟨(r:Int),?_,by omega,by omega,by omega⟩
  rw[decide_eq_false hz,decide_eq_false hy]
  have e:(y.natAbs:Int)=y:=by omega
  rw[e] at h3
  show z=(q:Int)*y+_
  rw[Int.mul_comm];omega
theorem f_of {z y q r:Int} (h:y≠0) (e:z=q*y+r) (h1:0<y→0≤r∧r<y) (h2:y<0→r≤0∧y<r):q=Int.fdiv z y∧r=fr z y:=by
 unfold fr
 rw[if_neg h]
 rcases Int.lt_or_gt_of_ne h with h'|h'
 ·obtain⟨a,b⟩:=f_neg (a:=z) (b:=y) (q:=q) (r:=r) (by rw[e,Int.mul_comm]) (h2 h').1 (h2 h').2
  exact⟨a.symm,b.symm⟩
 ·obtain⟨a,b⟩:=f_pos (a:=z) (b:=y) (q:=q) (r:=r) (by rw[e,Int.mul_comm]) (h1 h').1 (h1 h').2
  exact⟨a.symm,b.symm⟩
theorem sz_lt {a b:Int}:sz a*sz b<0↔(a<0∧0<b)∨(0<a∧b<0):=by
 unfold sz
 split <;> split <;> (try split) <;> (try split) <;> omega
theorem dm_less {z y q:Int} (hq:q=sg (decide (z<0) !=decide (y<0)) (z.natAbs/y.natAbs)) (h:y≠0) (ht:sz (z+ -(q*y))*sz y<0):q+ -1=Int.fdiv z y∧z+ -((q+ -1)*y)=fr z y:=by
 obtain⟨r,e,h1,h2,h3⟩:=tq z y h
 rw[←hq] at e
 have er:z+ -(q*y)=r:=by omega
 rw[er,sz_lt] at ht
 have e2:(q+ -1)*y=q*y-y:=by rw[Int.add_mul];omega
 have:=f_of (z:=z) (y:=y) (q:=q+ -1) (r:=r+y) h (by rw[e2];omega) (by omega) (by omega)
 exact⟨this.1,by rw[e2,←this.2];omega⟩
theorem dm_same {z y q:Int} (hq:q=sg (decide (z<0) !=decide (y<0)) (z.natAbs/y.natAbs)) (h:y≠0) (ht:¬sz (z+ -(q*y))*sz y<0):q=Int.fdiv z y∧z+ -(q*y)=fr z y:=by
 obtain⟨r,e,h1,h2,h3⟩:=tq z y h
 rw[←hq] at e
 have er:z+ -(q*y)=r:=by omega
 rw[er,sz_lt] at ht
 rw[er]
 exact f_of h e (by omega) (by omega)
theorem Rz.cast {w:World} {v:Value} {z z':Int} (h:Rz w v z) (e:z=z'):Rz w v z':=by subst e;exact h
def RdPost (w:World) (z1 z2:Int) (e:Ending) (w':World):Prop:=∃v1 v2,e= .returned (.tuple #[v1,v2])∧Rz w' v1 (z1.fdiv z2)∧Rz w' v2 (fr z1 z2)∧Below w.heap.size w w'
end Go.Proofs.YtnljadejcfgmaaaGreatDoor
