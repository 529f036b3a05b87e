import Derived.Test.YtpkhdajnppoinaaGreatKC37
namespace Go.Proofs.YtpkhdajnppoinaaGreat
open Go.RowKit
set_option maxRecDepth 100000
set_option linter.unusedVariables false
set_option maxHeartbeats 8000000
theorem num_den (q:Rat):((q.num:Int):Rat)/((((q.den:Nat):Int):Int):Rat)=q:=by rw[Rat.intCast_natCast,←Rat.mkRat_eq_div,Rat.mkRat_self]
theorem ppI_yes {xs:List Nat} {z:Int} (h:ppE xs=0):ppI xs z=z:=by unfold ppI;rw[if_pos h]
theorem ppI_bd (xs:List Nat) {z l u:Int} (h0:l≤z) (h1:z≤u) (l0:l≤0) (u0:0≤u):l≤ppI xs z∧ppI xs z≤u:=by unfold ppI;split <;> omega
theorem pp_bd (xs:List Nat):(-9223372036854775808≤ppI xs (anA (hd44 xs))∧ppI xs (anA (hd44 xs))≤9223372036854775807)∧(0≤ppI xs (anB (hd44 xs))∧ppI xs (anB (hd44 xs))≤3600)∧(-9223372036854775808≤ppI xs (anA (tl44 xs))∧ppI xs (anA (tl44 xs))≤9223372036854775807)∧(0≤ppI xs (anB (tl44 xs))∧ppI xs (anB (tl44 xs))≤3600):=by
 have a:=an_bd (hd44 xs)
 have b:=an_bd (tl44 xs)
 exact⟨ppI_bd xs a.1 a.2.1 (by decide) (by decide),ppI_bd xs a.2.2.1 a.2.2.2 (by decide) (by decide),ppI_bd xs b.1 b.2.1 (by decide) (by decide),ppI_bd xs b.2.2.1 b.2.2.2 (by decide) (by decide)⟩
theorem str_same {xs ys:List Nat} (h:xs=ys):(xs.map UInt8.ofNat == ys.map UInt8.ofNat)=true:=by rw[h];simp
def farB (m:Int) (q:Rat):Bool:=decide (((m:Int):Rat)<q.abs)
theorem far_iff {m a b:Int} (hb:1≤b):farB m (((a:Int):Rat)/((b:Int):Rat))=false↔ -m*b≤a∧a≤m*b:=by
 have p:(0:Rat)<((b:Int):Rat):=Rat.intCast_pos.2 (by omega)
 have e:((a:Int):Rat)=((a:Int):Rat)/((b:Int):Rat)*((b:Int):Rat):=(Rat.div_mul_cancel (by grind)).symm
 unfold farB
 rw[decide_eq_false_iff_not]
 constructor
 ·intro h
  have h2:(((a:Int):Rat)/((b:Int):Rat)).abs ≤((m:Int):Rat):=Rat.not_lt.1 h
  have u:((a:Int):Rat)/((b:Int):Rat)≤((m:Int):Rat):=by unfold Rat.abs at h2;split at h2 <;> grind
  have l:((-m:Int):Rat)≤((a:Int):Rat)/((b:Int):Rat):=by rw[Rat.intCast_neg];unfold Rat.abs at h2;split at h2 <;> grind
  have m1:=Rat.mul_le_mul_of_nonneg_right (c:=((b:Int):Rat)) u (by grind)
  have m0:=Rat.mul_le_mul_of_nonneg_right (c:=((b:Int):Rat)) l (by grind)
  rw[←e] at m1 m0
  exact⟨Rat.intCast_le_intCast.1 (by rw[Rat.intCast_mul];exact m0),Rat.intCast_le_intCast.1 (by rw[Rat.intCast_mul];exact m1)⟩
 ·rintro⟨h0,h1⟩
  have k0:((-m*b:Int):Rat)≤((a:Int):Rat):=Rat.intCast_le_intCast.2 h0
  have k1:((a:Int):Rat)≤((m*b:Int):Rat):=Rat.intCast_le_intCast.2 h1
  rw[Rat.intCast_mul,Rat.intCast_neg] at k0
  rw[Rat.intCast_mul] at k1
  have u:=dv_le p k1
  have l:=le_dv p k0
  refine Rat.not_lt.2 ?_
  unfold Rat.abs;split <;> grind
end Go.Proofs.YtpkhdajnppoinaaGreat
