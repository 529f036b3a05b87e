import Derived.Test.YtnljadejcfgmaaaGreatDoorKA32
namespace Go.Proofs.YtnljadejcfgmaaaGreatDoor
open Go.RowKit
set_option maxRecDepth 100000
set_option linter.unusedVariables false
set_option maxHeartbeats 8000000
def sunU (t:Rat):Rat:=((360:Int):Rat)*mturn t pyr-sunE t
theorem sunV_U (t:Rat):sunV t=rmod (sunU t) ((360:Int):Rat):=by
 unfold sunV sunU sunE atv
 rw[mof_turns (t:=t) pyr_pos,show((360:Int):Rat)*mturn t pyr+((360:Int):Rat)*(((-(mturn t pyr).floor :Int)):Rat)-eqv t pay ssz sch=(((360:Int):Rat)*mturn t pyr-eqv t pay ssz sch)+((360:Int):Rat)*(((-(mturn t pyr).floor :Int)):Rat) by grind,rmod_more _ c360_pos]
theorem sunE_lip (t d:Rat):(sunE (t+d)-sunE t).abs ≤ssz*(225/224)*(((360:Int):Rat)*(d/pay)).abs :=
 eqv_lip (n:=0) pay_pos (by decide+kernel) (by decide+kernel) (by decide+kernel) (by decide+kernel) (by rw[mturn_add,Rat.intCast_zero];grind)
theorem abs_scale {s c d:Rat} (hs:0≤s) (hc:0<c) (hd:0≤d):s*(((360:Int):Rat)*(d/c)).abs =s*((360:Int):Rat)/c*d:=by
 have h:(0:Rat)≤((360:Int):Rat)*(d/c):=Rat.mul_nonneg (by decide) (by rw[Rat.div_def];exact Rat.mul_nonneg hd (Rat.le_of_lt (Rat.inv_pos.2 hc)))
 rw[Rat.abs_of_nonneg h,Rat.div_def,Rat.div_def];grind
theorem sun_rate (t:Rat) {d:Rat} (hd:0≤d):9471/10000*d≤sunU (t+d)-sunU t∧sunU (t+d)-sunU t≤10242/10000*d:=by
 have l:=abs_two (sunE_lip t d)
 rw[abs_scale (s:=ssz*(225/224)) (by decide+kernel) pay_pos hd] at l
 have k:ssz*(225/224)*((360:Int):Rat)/pay<385015/10000000:=by decide+kernel
 have k1:985602/1000000<((360:Int):Rat)/pyr:=by decide+kernel
 have k2:((360:Int):Rat)/pyr<985603/1000000:=by decide+kernel
 have e:sunU (t+d)-sunU t=((360:Int):Rat)/pyr*d-(sunE (t+d)-sunE t):=by
  unfold sunU;rw[mturn_add,Rat.div_def,Rat.div_def];grind
 have m:=Rat.mul_nonneg (a:=385015/10000000-ssz*(225/224)*((360:Int):Rat)/pay) (b:=d) (by grind) hd
 have m1:=Rat.mul_nonneg (a:=((360:Int):Rat)/pyr-985602/1000000) (b:=d) (by grind) hd
 have m2:=Rat.mul_nonneg (a:=985603/1000000-((360:Int):Rat)/pyr) (b:=d) (by grind) hd
 rw[e]
 generalize ssz*(225/224)*((360:Int):Rat)/pay=x at*
 generalize ((360:Int):Rat)/pyr=y at*
 constructor <;> grind
theorem day_next (n:Int):(((n+1:Int)):Rat)=((n:Int):Rat)+1:=by rw[Rat.intCast_add,Rat.intCast_one]
theorem floor_mod {x:Rat} {n:Int} (hn:0<n):prt (rmod x ((360:Int):Rat)) n=(x*(((n:Int):Rat)/((360:Int):Rat))).floor %n:=by
 have np:(0:Rat)<((n:Int):Rat):=Rat.intCast_pos.2 hn
 have e:(rmod x ((360:Int):Rat))*(((n:Int):Rat)/((360:Int):Rat))=x*(((n:Int):Rat)/((360:Int):Rat))+((n*(-(x/((360:Int):Rat)).floor):Int):Rat):=by
  rw[rmod_fl c360_pos,Rat.intCast_mul,Rat.div_def ((n:Int):Rat),r360];grind
 have b:=prt_bd (x:=rmod x ((360:Int):Rat)) hn (rmod_low c360_pos) (rmod_high c360_pos)
 unfold prt at b ⊢
 rw[e,Rat.floor_add_intCast] at b ⊢
 have h:=Int.emod_eq_of_lt (b:=n) b.1 b.2
 rw[←h,Int.add_mul_emod_self_left]
end Go.Proofs.YtnljadejcfgmaaaGreatDoor
