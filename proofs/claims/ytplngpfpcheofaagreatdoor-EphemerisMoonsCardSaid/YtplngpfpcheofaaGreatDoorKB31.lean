import Derived.Test.YtplngpfpcheofaaGreatDoorKB30
namespace Go.Proofs.YtplngpfpcheofaaGreatDoor
open Go.RowKit
set_option maxRecDepth 100000
set_option linter.unusedVariables false
set_option maxHeartbeats 8000000
theorem floor_mod {x:Rat} {n:Int} (hn:0<n):prt (rmod x ((360:Int):Rat)) n=(x*(((n:Int):Rat)/((360:Int):Rat))).floor %n:=by
 have np:(0:Rat)<((n:Int):Rat):=Rat.intCast_pos.2 hn
 have e:(rmod x ((360:Int):Rat))*(((n:Int):Rat)/((360:Int):Rat))=x*(((n:Int):Rat)/((360:Int):Rat))+((n*(-(x/((360:Int):Rat)).floor):Int):Rat):=by
  rw[rmod_fl c360_pos,Rat.intCast_mul,Rat.div_def ((n:Int):Rat),r360];grind
 have b:=prt_bd (x:=rmod x ((360:Int):Rat)) hn (rmod_low c360_pos) (rmod_high c360_pos)
 unfold prt at b ⊢
 rw[e,Rat.floor_add_intCast] at b ⊢
 have h:=Int.emod_eq_of_lt (b:=n) b.1 b.2
 rw[←h,Int.add_mul_emod_self_left]
def kU (c:Int) (t:Rat):Rat:=if c=0 then sunU t else if c=1∨c=4 then phU t else if c=2 then moonU t else moonU t+sunU t
def kN (c:Int):Int:=if c=0 then 12 else if c=1 then 30 else if c=4 then 60 else 27
def kI (c:Int) (t:Rat):Int:=if c=0 then prt (sunV t) 12 else if c=1 then prt (phaseV t) 30 else if c=2 then prt (moonV t) 27 else if c=3 then prt (rmod (moonV t+sunV t) ((360:Int):Rat)) 27 else prt (phaseV t) 60
def kS (c:Int) (t:Rat):Int:=(kU c t*(((kN c:Int):Rat)/((360:Int):Rat))).floor
def kQ (c:Int):Rat:=if c=0 then 1 else 1/4
def kM (c:Int):Int:=if c=0 then 34 else 6
theorem kinds {c:Int} (h0:0≤c) (h1:c≤4):c=0∨c=1∨c=2∨c=3∨c=4:=by omega
theorem kN_bd (c:Int):12≤kN c∧kN c≤60:=by unfold kN;split <;> (try split) <;> (try split) <;> omega
theorem kI_mod {c:Int} (h0:0≤c) (h1:c≤4) (t:Rat):kI c t=kS c t%kN c:=by
 rcases kinds h0 h1 with rfl|rfl|rfl|rfl|rfl
 ·show prt (sunV t) 12=(sunU t*(((12:Int):Rat)/((360:Int):Rat))).floor %12
  rw[sunV_U,floor_mod (by decide)]
 ·show prt (phaseV t) 30=(phU t*(((30:Int):Rat)/((360:Int):Rat))).floor %30
  rw[phaseV_U,floor_mod (by decide)]
 ·show prt (moonV t) 27=(moonU t*(((27:Int):Rat)/((360:Int):Rat))).floor %27
  rw[moonV_U,floor_mod (by decide)]
 ·show prt (rmod (moonV t+sunV t) ((360:Int):Rat)) 27=((moonU t+sunU t)*(((27:Int):Rat)/((360:Int):Rat))).floor %27
  rw[yogaU_V,floor_mod (by decide)]
 ·show prt (phaseV t) 60=(phU t*(((60:Int):Rat)/((360:Int):Rat))).floor %60
  rw[phaseV_U,floor_mod (by decide)]
theorem kI_bd {c:Int} (h0:0≤c) (h1:c≤4) (t:Rat):0≤kI c t∧kI c t<kN c:=by
 rw[kI_mod h0 h1]
 have:=kN_bd c
 exact⟨Int.emod_nonneg _ (by omega),Int.emod_lt_of_pos _ (by omega)⟩
theorem kU_rate {c:Int} (h0:0≤c) (h1:c≤4) (t:Rat) {d:Rat} (hd:0≤d):
 0≤(kU c (t+d)-kU c t)*(((kN c:Int):Rat)/((360:Int):Rat))∧(d≤kQ c→(kU c (t+d)-kU c t)*(((kN c:Int):Rat)/((360:Int):Rat))<1)∧(((kM c:Int):Rat)*kQ c≤d→1≤(kU c (t+d)-kU c t)*(((kN c:Int):Rat)/((360:Int):Rat))):=by
 have s:=sun_rate t hd
 have m:=moon_rate t hd
 have p:=ph_rate t hd
 rcases kinds h0 h1 with rfl|rfl|rfl|rfl|rfl
 ·show 0≤(sunU (t+d)-sunU t)*(((12:Int):Rat)/((360:Int):Rat))∧(d≤1→(sunU (t+d)-sunU t)*(((12:Int):Rat)/((360:Int):Rat))<1)∧(((34:Int):Rat)*1≤d→1≤(sunU (t+d)-sunU t)*(((12:Int):Rat)/((360:Int):Rat)))
  rw[show((12:Int):Rat)/((360:Int):Rat)=12/360 by decide+kernel,show((34:Int):Rat)=34 from rfl]
  refine⟨by grind,fun _=>by grind,fun _=>by grind⟩
 ·show 0≤(phU (t+d)-phU t)*(((30:Int):Rat)/((360:Int):Rat))∧(d≤1/4→(phU (t+d)-phU t)*(((30:Int):Rat)/((360:Int):Rat))<1)∧(((6:Int):Rat)*(1/4)≤d→1≤(phU (t+d)-phU t)*(((30:Int):Rat)/((360:Int):Rat)))
  rw[show((30:Int):Rat)/((360:Int):Rat)=30/360 by decide+kernel,show((6:Int):Rat)=6 from rfl]
  refine⟨by grind,fun _=>by grind,fun _=>by grind⟩
 ·show 0≤(moonU (t+d)-moonU t)*(((27:Int):Rat)/((360:Int):Rat))∧(d≤1/4→(moonU (t+d)-moonU t)*(((27:Int):Rat)/((360:Int):Rat))<1)∧(((6:Int):Rat)*(1/4)≤d→1≤(moonU (t+d)-moonU t)*(((27:Int):Rat)/((360:Int):Rat)))
  rw[show((27:Int):Rat)/((360:Int):Rat)=27/360 by decide+kernel,show((6:Int):Rat)=6 from rfl]
  refine⟨by grind,fun _=>by grind,fun _=>by grind⟩
 ·show 0≤(moonU (t+d)+sunU (t+d)-(moonU t+sunU t))*(((27:Int):Rat)/((360:Int):Rat))∧(d≤1/4→(moonU (t+d)+sunU (t+d)-(moonU t+sunU t))*(((27:Int):Rat)/((360:Int):Rat))<1)∧(((6:Int):Rat)*(1/4)≤d→1≤(moonU (t+d)+sunU (t+d)-(moonU t+sunU t))*(((27:Int):Rat)/((360:Int):Rat)))
  rw[show((27:Int):Rat)/((360:Int):Rat)=27/360 by decide+kernel,show((6:Int):Rat)=6 from rfl]
  refine⟨by grind,fun _=>by grind,fun _=>by grind⟩
 ·show 0≤(phU (t+d)-phU t)*(((60:Int):Rat)/((360:Int):Rat))∧(d≤1/4→(phU (t+d)-phU t)*(((60:Int):Rat)/((360:Int):Rat))<1)∧(((6:Int):Rat)*(1/4)≤d→1≤(phU (t+d)-phU t)*(((60:Int):Rat)/((360:Int):Rat)))
  rw[show((60:Int):Rat)/((360:Int):Rat)=60/360 by decide+kernel,show((6:Int):Rat)=6 from rfl]
  refine⟨by grind,fun _=>by grind,fun _=>by grind⟩
theorem fl_by {x y:Rat} (h0:0≤y-x) (h1:y-x<1):y.floor=x.floor∨y.floor=x.floor+1:=by
 have a:=fl_le x
 have b:=fl_lt x
 have a':=fl_le y
 have b':=fl_lt y
 have u:((x.floor:Int):Rat)<((y.floor+1:Int):Rat):=by rw[Rat.intCast_add,Rat.intCast_one];grind
 have l:((y.floor:Int):Rat)<((x.floor+2:Int):Rat):=by rw[show((x.floor+2:Int):Rat)=((x.floor:Int):Rat)+2 from Rat.intCast_add _ _];grind
 have:=Rat.intCast_lt_intCast.1 u
 have:=Rat.intCast_lt_intCast.1 l
 omega
theorem kS_step {c:Int} (h0:0≤c) (h1:c≤4) (t:Rat) {d:Rat} (hd:0≤d) (hq:d≤kQ c):kS c (t+d)=kS c t∨kS c (t+d)=kS c t+1:=by
 have r:=kU_rate h0 h1 t hd
 exact fl_by (by have:=r.1;grind) (by have:=r.2.1 hq;grind)
theorem kI_far {c:Int} (h0:0≤c) (h1:c≤4) (t:Rat):kS c t<kS c (t+((kM c:Int):Rat)*kQ c):=by
 have hd:0≤((kM c:Int):Rat)*kQ c:=by rcases kinds h0 h1 with rfl|rfl|rfl|rfl|rfl <;> decide+kernel
 have r:=(kU_rate h0 h1 t hd).2.2 Rat.le_refl
 have a:=fl_le (kU c t*(((kN c:Int):Rat)/((360:Int):Rat)))
 have b:=fl_lt (kU c (t+((kM c:Int):Rat)*kQ c)*(((kN c:Int):Rat)/((360:Int):Rat)))
 unfold kS
 generalize (kU c t*(((kN c:Int):Rat)/((360:Int):Rat))).floor =j at*
 have u:((j:Int):Rat)<(((kU c (t+((kM c:Int):Rat)*kQ c)*(((kN c:Int):Rat)/((360:Int):Rat))).floor :Int):Rat):=by
  refine Rat.not_le.1 fun q=>?_
  have:(kU c (t+((kM c:Int):Rat)*kQ c)*(((kN c:Int):Rat)/((360:Int):Rat))).floor <j+1:=Rat.intCast_lt_intCast.1 (by rw[Rat.intCast_add,Rat.intCast_one];grind)
  have k2:j+1≤(kU c (t+((kM c:Int):Rat)*kQ c)*(((kN c:Int):Rat)/((360:Int):Rat))).floor :=Rat.le_floor_iff.2 (by rw[Rat.intCast_add,Rat.intCast_one];grind)
  omega
 exact Rat.intCast_lt_intCast.1 u
end Go.Proofs.YtplngpfpcheofaaGreatDoor
