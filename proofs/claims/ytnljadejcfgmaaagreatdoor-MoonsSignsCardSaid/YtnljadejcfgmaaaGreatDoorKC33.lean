import Derived.Test.YtnljadejcfgmaaaGreatDoorKC28
namespace Go.Proofs.YtnljadejcfgmaaaGreatDoor
open Go.RowKit
set_option maxRecDepth 100000
set_option linter.unusedVariables false
set_option maxHeartbeats 8000000
def sunU (t:Rat):Rat:=((360:Int):Rat)*mturn t pyr-sunE t
def moonU (t:Rat):Rat:=((360:Int):Rat)*mturn t pmo-moonE t
def phU (t:Rat):Rat:=moonU t-sunU t
theorem sunV_U (t:Rat):sunV t=rmod (sunU t) ((360:Int):Rat):=by
 unfold sunV sunU sunE atv
 rw[mof_turns (t:=t) pyr_pos,show((360:Int):Rat)*mturn t pyr+((360:Int):Rat)*(((-(mturn t pyr).floor :Int)):Rat)-eqv t pay ssz sch=(((360:Int):Rat)*mturn t pyr-eqv t pay ssz sch)+((360:Int):Rat)*(((-(mturn t pyr).floor :Int)):Rat) by grind,rmod_more _ c360_pos]
theorem moonV_U (t:Rat):moonV t=rmod (moonU t) ((360:Int):Rat):=by
 unfold moonV moonU moonE atv
 rw[mof_turns (t:=t) pmo_pos,show((360:Int):Rat)*mturn t pmo+((360:Int):Rat)*(((-(mturn t pmo).floor :Int)):Rat)-eqv t pam msz mch=(((360:Int):Rat)*mturn t pmo-eqv t pam msz mch)+((360:Int):Rat)*(((-(mturn t pmo).floor :Int)):Rat) by grind,rmod_more _ c360_pos]
theorem phaseV_U (t:Rat):phaseV t=rmod (phU t) ((360:Int):Rat):=by
 unfold phaseV phU
 rw[moonV_U,sunV_U,rmod_dif]
theorem sunE_lip (t d:Rat):(sunE (t+d)-sunE t).abs ≤ssz*(225/224)*(((360:Int):Rat)*(d/pay)).abs :=
 eqv_lip (n:=0) pay_pos (by decide+kernel) (by decide+kernel) (by decide+kernel) (by decide+kernel) (by rw[mturn_add,Rat.intCast_zero];grind)
theorem moonE_lip (t d:Rat):(moonE (t+d)-moonE t).abs ≤msz*(225/224)*(((360:Int):Rat)*(d/pam)).abs :=
 eqv_lip (n:=0) pam_pos (by decide+kernel) (by decide+kernel) (by decide+kernel) (by decide+kernel) (by rw[mturn_add,Rat.intCast_zero];grind)
theorem abs_scale {s c d:Rat} (hs:0≤s) (hc:0<c) (hd:0≤d):s*(((360:Int):Rat)*(d/c)).abs =s*((360:Int):Rat)/c*d:=by
 have h:(0:Rat)≤((360:Int):Rat)*(d/c):=Rat.mul_nonneg (by decide) (by rw[Rat.div_def];exact Rat.mul_nonneg hd (Rat.le_of_lt (Rat.inv_pos.2 hc)))
 rw[Rat.abs_of_nonneg h,Rat.div_def,Rat.div_def];grind
theorem sun_rate (t:Rat) {d:Rat} (hd:0≤d):9471/10000*d≤sunU (t+d)-sunU t∧sunU (t+d)-sunU t≤10242/10000*d:=by
 have l:=abs_two (sunE_lip t d)
 rw[abs_scale (s:=ssz*(225/224)) (by decide+kernel) pay_pos hd] at l
 have k:ssz*(225/224)*((360:Int):Rat)/pay<385015/10000000:=by decide+kernel
 have k1:985602/1000000<((360:Int):Rat)/pyr:=by decide+kernel
 have k2:((360:Int):Rat)/pyr<985603/1000000:=by decide+kernel
 have e:sunU (t+d)-sunU t=((360:Int):Rat)/pyr*d-(sunE (t+d)-sunE t):=by
  unfold sunU;rw[mturn_add,Rat.div_def,Rat.div_def];grind
 have m:=Rat.mul_nonneg (a:=385015/10000000-ssz*(225/224)*((360:Int):Rat)/pay) (b:=d) (by grind) hd
 have m1:=Rat.mul_nonneg (a:=((360:Int):Rat)/pyr-985602/1000000) (b:=d) (by grind) hd
 have m2:=Rat.mul_nonneg (a:=985603/1000000-((360:Int):Rat)/pyr) (b:=d) (by grind) hd
 rw[e]
 generalize ssz*(225/224)*((360:Int):Rat)/pay=x at*
 generalize ((360:Int):Rat)/pyr=y at*
 constructor <;> grind
theorem moon_rate (t:Rat) {d:Rat} (hd:0≤d):12009/1000*d≤moonU (t+d)-moonU t∧moonU (t+d)-moonU t≤14343/1000*d:=by
 have l:=abs_two (moonE_lip t d)
 rw[abs_scale (s:=msz*(225/224)) (by decide+kernel) pam_pos hd] at l
 have k:msz*(225/224)*((360:Int):Rat)/pam<11666/10000:=by decide+kernel
 have k1:1317635/100000<((360:Int):Rat)/pmo:=by decide+kernel
 have k2:((360:Int):Rat)/pmo<1317636/100000:=by decide+kernel
 have e:moonU (t+d)-moonU t=((360:Int):Rat)/pmo*d-(moonE (t+d)-moonE t):=by
  unfold moonU;rw[mturn_add,Rat.div_def,Rat.div_def];grind
 have m:=Rat.mul_nonneg (a:=11666/10000-msz*(225/224)*((360:Int):Rat)/pam) (b:=d) (by grind) hd
 have m1:=Rat.mul_nonneg (a:=((360:Int):Rat)/pmo-1317635/100000) (b:=d) (by grind) hd
 have m2:=Rat.mul_nonneg (a:=1317636/100000-((360:Int):Rat)/pmo) (b:=d) (by grind) hd
 rw[e]
 generalize msz*(225/224)*((360:Int):Rat)/pam=x at*
 generalize ((360:Int):Rat)/pmo=y at*
 constructor <;> grind
theorem ph_rate (t:Rat) {d:Rat} (hd:0≤d):1098/100*d≤phU (t+d)-phU t∧phU (t+d)-phU t≤134/10*d:=by
 have a:=sun_rate t hd
 have b:=moon_rate t hd
 unfold phU
 constructor <;> grind
theorem ph_long (t d:Rat):((360:Int):Rat)/psy*d-146/10≤phU (t+d)-phU t∧phU (t+d)-phU t≤((360:Int):Rat)/psy*d+146/10:=by
 have a1:=abs_two (sun_near t)
 have a2:=abs_two (sun_near (t+d))
 have b1:=abs_two (moon_near t)
 have b2:=abs_two (moon_near (t+d))
 have c:((22:Int):Rat)/((10:Int):Rat)=22/10:=by decide+kernel
 have c':((51:Int):Rat)/((10:Int):Rat)=51/10:=by decide+kernel
 rw[c] at a1 a2
 rw[c'] at b1 b2
 have k:((360:Int):Rat)/psy=((360:Int):Rat)/pmo-((360:Int):Rat)/pyr:=by decide+kernel
 have e:phU (t+d)-phU t=((360:Int):Rat)/psy*d-(moonE (t+d)-moonE t)+(sunE (t+d)-sunE t):=by
  unfold phU moonU sunU;rw[k,mturn_add,mturn_add,Rat.div_def,Rat.div_def,Rat.div_def,Rat.div_def];grind
 rw[e]
 constructor <;> grind
def full (t:Rat):Bool:=decide (((180:Int):Rat)≤phaseV t)
def turn (t:Rat):Int:=(phU t/((360:Int):Rat)).floor
theorem turn_bd (t:Rat):((360:Int):Rat)*((turn t:Int):Rat)≤phU t∧phU t<((360:Int):Rat)*((turn t:Int):Rat)+360:=by
 have a:=fl_le (phU t/((360:Int):Rat))
 have b:=fl_lt (phU t/((360:Int):Rat))
 have e:phU t=phU t/((360:Int):Rat)*((360:Int):Rat):=(Rat.div_mul_cancel (by decide)).symm
 unfold turn
 rw[r360] at*
 constructor <;> grind
theorem turn_of {t:Rat} {j:Int} (h0:((360:Int):Rat)*((j:Int):Rat)≤phU t) (h1:phU t<((360:Int):Rat)*((j:Int):Rat)+360):turn t=j:=by
 have b:=turn_bd t
 rw[r360] at*
 have u:((turn t:Int):Rat)<((j+1:Int):Rat):=by rw[Rat.intCast_add,Rat.intCast_one];grind
 have l:((j:Int):Rat)<((turn t+1:Int):Rat):=by rw[Rat.intCast_add,Rat.intCast_one];grind
 have:=Rat.intCast_lt_intCast.1 u
 have:=Rat.intCast_lt_intCast.1 l
 omega
theorem phase_turn (t:Rat):phaseV t=phU t-((360:Int):Rat)*((turn t:Int):Rat):=by
 rw[phaseV_U,rmod_fl c360_pos]
 unfold turn
 rw[Rat.intCast_neg];grind
theorem turn_step (t:Rat) {d:Rat} (h0:0≤d) (h1:d≤1):(turn (t+d)=turn t∧phaseV (t+d)=phaseV t+(phU (t+d)-phU t))∨(turn (t+d)=turn t+1∧phaseV (t+d)=phaseV t+(phU (t+d)-phU t)-360):=by
 have r:=ph_rate t h0
 have b:=turn_bd t
 have c:=turn_bd (t+d)
 have p:=phase_turn t
 have q:=phase_turn (t+d)
 rw[r360] at*
 by_cases h:phU (t+d)<360*((turn t:Int):Rat)+360
 ·have e:turn (t+d)=turn t:=turn_of (by rw[r360];grind) (by rw[r360];grind)
  rw[e] at q
  exact .inl ⟨e,by grind⟩
 ·have e:turn (t+d)=turn t+1:=turn_of (by rw[r360,Rat.intCast_add,Rat.intCast_one];grind) (by rw[r360,Rat.intCast_add,Rat.intCast_one];grind)
  rw[e,Rat.intCast_add,Rat.intCast_one] at q
  exact .inr ⟨e,by grind⟩
theorem phase_bd (t:Rat):0≤phaseV t∧phaseV t<360:=by
 have a:=phaseV_low t
 have b:=phaseV_high t
 rw[r360] at b
 exact⟨a,b⟩
theorem full_iff (t:Rat) {d:Rat} (h0:0≤d) (h1:d≤1):(full t=true∧full (t+d)=false)↔turn (t+d)=turn t+1:=by
 have r:=ph_rate t h0
 have a:=phase_bd t
 have b:=phase_bd (t+d)
 unfold full
 rw[decide_eq_true_iff,decide_eq_false_iff_not,show((180:Int):Rat)=180 from rfl]
 rcases turn_step t h0 h1 with⟨e,p⟩|⟨e,p⟩
 ·constructor
  ·rintro⟨x,y⟩;exact absurd (show 180≤phaseV (t+d) by grind) y
  ·intro x;omega
 ·constructor
  ·intro _;exact e
  ·intro _;exact⟨by grind,by grind⟩
def dturn (n:Int):Int:=turn ((n:Int):Rat)
def comes (n:Int):Bool:=full ((n:Int):Rat) && !full (((n+1:Int)):Rat)
theorem day_next (n:Int):(((n+1:Int)):Rat)=((n:Int):Rat)+1:=by rw[Rat.intCast_add,Rat.intCast_one]
theorem comes_iff (n:Int):comes n=true↔dturn (n+1)=dturn n+1:=by
 have h:=full_iff ((n:Int):Rat) (d:=1) (by decide) (by decide)
 unfold comes dturn
 rw[day_next,←h,Bool.and_eq_true,Bool.not_eq_true']
theorem dturn_step (n:Int):dturn (n+1)=dturn n∨dturn (n+1)=dturn n+1:=by
 unfold dturn
 rw[day_next]
 rcases turn_step ((n:Int):Rat) (d:=1) (by decide) (by decide) with h|h
 ·exact .inl h.1
 ·exact .inr h.1
theorem dturn_up (n:Int) (k:Nat):dturn n≤dturn (n+k):=by
 induction k with
 |zero=>rw[show n+((0:Nat):Int)=n by omega];exact Int.le_refl _
 |succ k ih=>
  rw[show n+((k+1:Nat):Int)=n+k+1 by omega]
  have:=dturn_step (n+k)
  omega
theorem dturn_le {a b:Int} (h:a≤b):dturn a≤dturn b:=by
 have:=dturn_up a (b-a).toNat
 rwa[show a+(((b-a).toNat :Nat):Int)=b by omega] at this
theorem none_between {a b:Int} (h:a≤b) (no:∀m,a≤m→m<b→¬comes m=true):dturn b=dturn a:=by
 have key:∀k:Nat,a+k≤b→dturn (a+k)=dturn a:=by
  intro k
  induction k with
  |zero=>intro _;rw[show a+((0:Nat):Int)=a by omega]
  |succ k ih=>
   intro hk
   rw[show a+((k+1:Nat):Int)=a+k+1 by omega]
   have h1:=ih (by omega)
   have h2:=no (a+k) (by omega) (by omega)
   rw[comes_iff] at h2
   have:=dturn_step (a+k)
   omega
 have:=key (b-a).toNat (by omega)
 rwa[show a+(((b-a).toNat :Nat):Int)=b by omega] at this
theorem last_in {a f:Int} (h:a≤f) (g:dturn a<dturn f):∃L,a≤L∧L<f∧comes L=true∧∀m,L<m→m<f→¬comes m=true:=by
 have key:∀k:Nat,k≤(f-a).toNat →dturn (f-k)<dturn f→∃L,f-k≤L∧L<f∧comes L=true∧∀m,L<m→m<f→¬comes m=true:=by
  intro k
  induction k with
  |zero=>intro _ x;rw[show f-((0:Nat):Int)=f by omega] at x;omega
  |succ k ih=>
   intro hk x
   by_cases y:dturn (f-k)<dturn f
   ·obtain⟨L,l1,l2,l3,l4⟩:=ih (by omega) y
    exact⟨L,by omega,l2,l3,l4⟩
   ·have z:=dturn_le (a:=f-k) (b:=f) (by omega)
    refine⟨f-((k+1:Nat):Int),Int.le_refl _,by omega,?_,?_⟩
    ·rw[comes_iff,show f-((k+1:Nat):Int)+1=f-k by omega]
     have:=dturn_step (f-((k+1:Nat):Int))
     rw[show f-((k+1:Nat):Int)+1=f-k by omega] at this
     omega
    ·intro m m1 m2 c
     rw[comes_iff] at c
     have p:=dturn_le (a:=f-k) (b:=m) (by omega)
     have q:=dturn_le (a:=m+1) (b:=f) (by omega)
     omega
 have:=key (f-a).toNat (Nat.le_refl _) (by rwa[show f-(((f-a).toNat :Nat):Int)=a by omega])
 rwa[show f-(((f-a).toNat :Nat):Int)=a by omega] at this
theorem last_ex (f:Int):∃L,f-34≤L∧L<f∧comes L=true∧∀m,L<m→m<f→¬comes m=true:=by
 refine last_in (a:=f-34) (by omega) ?_
 have r:=(ph_rate (((f-34:Int)):Rat) (d:=34) (by decide)).1
 have a:=turn_bd (((f-34:Int)):Rat)
 have b:=turn_bd ((f:Int):Rat)
 rw[show(((f-34:Int)):Rat)+34=((f:Int):Rat) by rw[Rat.intCast_sub,show((34:Int):Rat)=34 from rfl];grind] at r
 rw[r360] at*
 unfold dturn
 have u:((turn (((f-34:Int)):Rat):Int):Rat)<((turn ((f:Int):Rat):Int):Rat):=by grind
 exact Rat.intCast_lt_intCast.1 u
theorem next_ex {n:Int} (h:comes n=true):∃m,n+28≤m∧m≤n+31∧comes m=true∧∀k,n<k→k<m→¬comes k=true:=by
 rw[comes_iff] at h
 have k1:((360:Int):Rat)/psy<12191/1000:=by decide+kernel
 have k2:1219/100<((360:Int):Rat)/psy:=by decide+kernel
 have c0:=turn_bd ((n:Int):Rat)
 have c1:=turn_bd (((n+1:Int)):Rat)
 have c2:=turn_bd (((n+28:Int)):Rat)
 have c3:=turn_bd (((n+32:Int)):Rat)
 have r1:=(ph_long ((n:Int):Rat) 28).2
 have r2:=(ph_long (((n+1:Int)):Rat) 31).1
 rw[show((n:Int):Rat)+28=(((n+28:Int)):Rat) by rw[Rat.intCast_add];rfl] at r1
 rw[show(((n+1:Int)):Rat)+31=(((n+32:Int)):Rat) by rw[Rat.intCast_add,Rat.intCast_add,show((32:Int):Rat)=32 from rfl,Rat.intCast_one];grind] at r2
 unfold dturn at h
 rw[h,Rat.intCast_add,Rat.intCast_one] at c1
 rw[r360] at*
 generalize (360:Rat)/psy=s at*
 have u:((turn (((n+28:Int)):Rat):Int):Rat)<((turn ((n:Int):Rat)+2:Int):Rat):=by rw[show((turn ((n:Int):Rat)+2:Int):Rat)=((turn ((n:Int):Rat):Int):Rat)+2 from Rat.intCast_add _ _];grind
 have l:((turn ((n:Int):Rat)+1:Int):Rat)<((turn (((n+32:Int)):Rat):Int):Rat):=by rw[show((turn ((n:Int):Rat)+1:Int):Rat)=((turn ((n:Int):Rat):Int):Rat)+1 from Rat.intCast_add _ _];grind
 have u:=Rat.intCast_lt_intCast.1 u
 have l:=Rat.intCast_lt_intCast.1 l
 have e1:dturn (n+1)=dturn n+1:=h
 have u:dturn (n+28)<dturn n+2:=u
 have l:dturn n+1<dturn (n+32):=l
 have up:dturn (n+1)≤dturn (n+28):=dturn_le (by omega)
 -- the first one behind day n+28
 have key:∀k:Nat,dturn (n+28)<dturn (n+28+k)→∃m,n+28≤m∧m<n+28+k∧comes m=true∧∀j,n+28≤j→j<m→¬comes j=true:=by
  intro k
  induction k with
  |zero=>intro x;rw[show n+28+((0:Nat):Int)=n+28 by omega] at x;omega
  |succ k ih=>
   intro x
   by_cases y:dturn (n+28)<dturn (n+28+k)
   ·obtain⟨m,m1,m2,m3,m4⟩:=ih y
    exact⟨m,m1,by omega,m3,m4⟩
   ·have z:=dturn_le (a:=n+28) (b:=n+28+k) (by omega)
    rw[show n+28+((k+1:Nat):Int)=n+28+k+1 by omega] at x
    refine⟨n+28+k,by omega,by omega,?_,?_⟩
    ·rw[comes_iff]
     have:=dturn_step (n+28+k)
     omega
    ·intro j j1 j2 c
     rw[comes_iff] at c
     have p:=dturn_le (a:=n+28) (b:=j) (by omega)
     have q:=dturn_le (a:=j+1) (b:=n+28+k) (by omega)
     omega
 obtain⟨m,m1,m2,m3,m4⟩:=key 4 (by rw[show n+28+((4:Nat):Int)=n+32 by omega];omega)
 refine⟨m,m1,by omega,m3,fun k k1 k2 c=>?_⟩
 by_cases hk:n+28≤k
 ·exact m4 k hk k2 c
 ·rw[comes_iff] at c
  have p:=dturn_le (a:=n+1) (b:=k) (by omega)
  have q:=dturn_le (a:=k+1) (b:=n+28) (by omega)
  omega
theorem last_from {t:Rat} {f L:Int} (hf:f=t.floor) (no:¬(full ((f:Int):Rat)=true∧full t=false)) (hL:L<f) (hc:comes L=true) (hn:∀m,L<m→m<f→¬comes m=true):L≤(t-phaseV t*(((10:Int):Rat)/((135:Int):Rat))).floor :=by
 have f0:((f:Int):Rat)≤t:=by rw[hf];exact fl_le t
 have f1:t<((f:Int):Rat)+1:=by rw[hf];exact fl_lt t
 have e:((f:Int):Rat)+(t-((f:Int):Rat))=t:=by grind
 have s:=turn_step ((f:Int):Rat) (d:=t-((f:Int):Rat)) (by grind) (by grind)
 have i:=full_iff ((f:Int):Rat) (d:=t-((f:Int):Rat)) (by grind) (by grind)
 rw[e] at s i
 have ht:turn t=dturn f:=by
  rcases s with s|s
  ·exact s.1
  ·exact absurd (i.2 s.1) no
 have hb:=none_between (a:=L+1) (b:=f) (by omega) fun m h1 h2=>hn m (by omega) h2
 rw[comes_iff] at hc
 have hJ:turn t=turn ((L:Int):Rat)+1:=by rw[ht,hb];exact hc
 have c:=turn_bd ((L:Int):Rat)
 have p:=phase_turn t
 have pb:=phase_bd t
 have Lf:=cast_le (show L+1≤f by omega)
 rw[Rat.intCast_add,Rat.intCast_one] at Lf
 have r:=(ph_rate ((L:Int):Rat) (d:=t-((L:Int):Rat)) (by grind)).2
 rw[show((L:Int):Rat)+(t-((L:Int):Rat))=t by grind] at r
 rw[hJ,Rat.intCast_add,Rat.intCast_one] at p
 rw[r360] at*
 refine Rat.le_floor_iff.2 ?_
 rw[show((10:Int):Rat)/((135:Int):Rat)=10/135 by decide+kernel]
 grind
end Go.Proofs.YtnljadejcfgmaaaGreatDoor
