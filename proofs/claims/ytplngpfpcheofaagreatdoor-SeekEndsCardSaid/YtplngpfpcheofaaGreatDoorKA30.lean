import Derived.Test.YtplngpfpcheofaaGreatDoorKA23
import Derived.Test.YtplngpfpcheofaaGreatDoorKA24
namespace Go.Proofs.YtplngpfpcheofaaGreatDoor
open Go.RowKit
set_option maxRecDepth 100000
set_option linter.unusedVariables false
set_option maxHeartbeats 8000000
theorem floor_mod {x:Rat} {n:Int} (hn:0<n):prt (rmod x ((360:Int):Rat)) n=(x*(((n:Int):Rat)/((360:Int):Rat))).floor %n:=by
 have np:(0:Rat)<((n:Int):Rat):=Rat.intCast_pos.2 hn
 have e:(rmod x ((360:Int):Rat))*(((n:Int):Rat)/((360:Int):Rat))=x*(((n:Int):Rat)/((360:Int):Rat))+((n*(-(x/((360:Int):Rat)).floor):Int):Rat):=by
  rw[rmod_fl c360_pos,Rat.intCast_mul,Rat.div_def ((n:Int):Rat),r360];grind
 have b:=prt_bd (x:=rmod x ((360:Int):Rat)) hn (rmod_low c360_pos) (rmod_high c360_pos)
 unfold prt at b ⊢
 rw[e,Rat.floor_add_intCast] at b ⊢
 have h:=Int.emod_eq_of_lt (b:=n) b.1 b.2
 rw[←h,Int.add_mul_emod_self_left]
def kU (c:Int) (t:Rat):Rat:=if c=0 then sunU t else if c=1∨c=4 then phU t else if c=2 then moonU t else moonU t+sunU t
def kN (c:Int):Int:=if c=0 then 12 else if c=1 then 30 else if c=4 then 60 else 27
def kI (c:Int) (t:Rat):Int:=if c=0 then prt (sunV t) 12 else if c=1 then prt (phaseV t) 30 else if c=2 then prt (moonV t) 27 else if c=3 then prt (rmod (moonV t+sunV t) ((360:Int):Rat)) 27 else prt (phaseV t) 60
def kS (c:Int) (t:Rat):Int:=(kU c t*(((kN c:Int):Rat)/((360:Int):Rat))).floor
def kQ (c:Int):Rat:=if c=0 then 1 else 1/4
def kM (c:Int):Int:=if c=0 then 34 else 6
theorem kinds {c:Int} (h0:0≤c) (h1:c≤4):c=0∨c=1∨c=2∨c=3∨c=4:=by omega
theorem kN_bd (c:Int):12≤kN c∧kN c≤60:=by unfold kN;split <;> (try split) <;> (try split) <;> omega
theorem kI_mod {c:Int} (h0:0≤c) (h1:c≤4) (t:Rat):kI c t=kS c t%kN c:=by
 rcases kinds h0 h1 with rfl|rfl|rfl|rfl|rfl
 ·show prt (sunV t) 12=(sunU t*(((12:Int):Rat)/((360:Int):Rat))).floor %12
  rw[sunV_U,floor_mod (by decide)]
 ·show prt (phaseV t) 30=(phU t*(((30:Int):Rat)/((360:Int):Rat))).floor %30
  rw[phaseV_U,floor_mod (by decide)]
 ·show prt (moonV t) 27=(moonU t*(((27:Int):Rat)/((360:Int):Rat))).floor %27
  rw[moonV_U,floor_mod (by decide)]
 ·show prt (rmod (moonV t+sunV t) ((360:Int):Rat)) 27=((moonU t+sunU t)*(((27:Int):Rat)/((360:Int):Rat))).floor %27
  rw[yogaU_V,floor_mod (by decide)]
 ·show prt (phaseV t) 60=(phU t*(((60:Int):Rat)/((360:Int):Rat))).floor %60
  rw[phaseV_U,floor_mod (by decide)]
theorem kI_bd {c:Int} (h0:0≤c) (h1:c≤4) (t:Rat):0≤kI c t∧kI c t<kN c:=by
 rw[kI_mod h0 h1]
 have:=kN_bd c
 exact⟨Int.emod_nonneg _ (by omega),Int.emod_lt_of_pos _ (by omega)⟩
theorem kU_rate {c:Int} (h0:0≤c) (h1:c≤4) (t:Rat) {d:Rat} (hd:0≤d):
 0≤(kU c (t+d)-kU c t)*(((kN c:Int):Rat)/((360:Int):Rat))∧(d≤kQ c→(kU c (t+d)-kU c t)*(((kN c:Int):Rat)/((360:Int):Rat))<1)∧(((kM c:Int):Rat)*kQ c≤d→1≤(kU c (t+d)-kU c t)*(((kN c:Int):Rat)/((360:Int):Rat))):=by
 have s:=sun_rate t hd
 have m:=moon_rate t hd
 have p:=ph_rate t hd
 rcases kinds h0 h1 with rfl|rfl|rfl|rfl|rfl
 ·show 0≤(sunU (t+d)-sunU t)*(((12:Int):Rat)/((360:Int):Rat))∧(d≤1→(sunU (t+d)-sunU t)*(((12:Int):Rat)/((360:Int):Rat))<1)∧(((34:Int):Rat)*1≤d→1≤(sunU (t+d)-sunU t)*(((12:Int):Rat)/((360:Int):Rat)))
  rw[show((12:Int):Rat)/((360:Int):Rat)=12/360 by decide+kernel,show((34:Int):Rat)=34 from rfl]
  refine⟨by grind,fun _=>by grind,fun _=>by grind⟩
 ·show 0≤(phU (t+d)-phU t)*(((30:Int):Rat)/((360:Int):Rat))∧(d≤1/4→(phU (t+d)-phU t)*(((30:Int):Rat)/((360:Int):Rat))<1)∧(((6:Int):Rat)*(1/4)≤d→1≤(phU (t+d)-phU t)*(((30:Int):Rat)/((360:Int):Rat)))
  rw[show((30:Int):Rat)/((360:Int):Rat)=30/360 by decide+kernel,show((6:Int):Rat)=6 from rfl]
  refine⟨by grind,fun _=>by grind,fun _=>by grind⟩
 ·show 0≤(moonU (t+d)-moonU t)*(((27:Int):Rat)/((360:Int):Rat))∧(d≤1/4→(moonU (t+d)-moonU t)*(((27:Int):Rat)/((360:Int):Rat))<1)∧(((6:Int):Rat)*(1/4)≤d→1≤(moonU (t+d)-moonU t)*(((27:Int):Rat)/((360:Int):Rat)))
  rw[show((27:Int):Rat)/((360:Int):Rat)=27/360 by decide+kernel,show((6:Int):Rat)=6 from rfl]
  refine⟨by grind,fun _=>by grind,fun _=>by grind⟩
 ·show 0≤(moonU (t+d)+sunU (t+d)-(moonU t+sunU t))*(((27:Int):Rat)/((360:Int):Rat))∧(d≤1/4→(moonU (t+d)+sunU (t+d)-(moonU t+sunU t))*(((27:Int):Rat)/((360:Int):Rat))<1)∧(((6:Int):Rat)*(1/4)≤d→1≤(moonU (t+d)+sunU (t+d)-(moonU t+sunU t))*(((27:Int):Rat)/((360:Int):Rat)))
  rw[show((27:Int):Rat)/((360:Int):Rat)=27/360 by decide+kernel,show((6:Int):Rat)=6 from rfl]
  refine⟨by grind,fun _=>by grind,fun _=>by grind⟩
 ·show 0≤(phU (t+d)-phU t)*(((60:Int):Rat)/((360:Int):Rat))∧(d≤1/4→(phU (t+d)-phU t)*(((60:Int):Rat)/((360:Int):Rat))<1)∧(((6:Int):Rat)*(1/4)≤d→1≤(phU (t+d)-phU t)*(((60:Int):Rat)/((360:Int):Rat)))
  rw[show((60:Int):Rat)/((360:Int):Rat)=60/360 by decide+kernel,show((6:Int):Rat)=6 from rfl]
  refine⟨by grind,fun _=>by grind,fun _=>by grind⟩
theorem fl_by {x y:Rat} (h0:0≤y-x) (h1:y-x<1):y.floor=x.floor∨y.floor=x.floor+1:=by
 have a:=fl_le x
 have b:=fl_lt x
 have a':=fl_le y
 have b':=fl_lt y
 have u:((x.floor:Int):Rat)<((y.floor+1:Int):Rat):=by rw[Rat.intCast_add,Rat.intCast_one];grind
 have l:((y.floor:Int):Rat)<((x.floor+2:Int):Rat):=by rw[show((x.floor+2:Int):Rat)=((x.floor:Int):Rat)+2 from Rat.intCast_add _ _];grind
 have:=Rat.intCast_lt_intCast.1 u
 have:=Rat.intCast_lt_intCast.1 l
 omega
theorem kS_step {c:Int} (h0:0≤c) (h1:c≤4) (t:Rat) {d:Rat} (hd:0≤d) (hq:d≤kQ c):kS c (t+d)=kS c t∨kS c (t+d)=kS c t+1:=by
 have r:=kU_rate h0 h1 t hd
 exact fl_by (by have:=r.1;grind) (by have:=r.2.1 hq;grind)
theorem kI_next {c:Int} (h0:0≤c) (h1:c≤4) (t:Rat) {d:Rat} (hd:0≤d) (hq:d≤kQ c) (ne:kI c (t+d)≠kI c t):kI c (t+d)=(kI c t+1)%kN c:=by
 have n:=kN_bd c
 rw[kI_mod h0 h1,kI_mod h0 h1] at*
 rcases kS_step h0 h1 t hd hq with e|e
 ·rw[e] at ne;exact absurd rfl ne
 ·rw[e];exact(Int.emod_add_emod _ _ _).symm
theorem kI_far {c:Int} (h0:0≤c) (h1:c≤4) (t:Rat):kS c t<kS c (t+((kM c:Int):Rat)*kQ c):=by
 have hd:0≤((kM c:Int):Rat)*kQ c:=by rcases kinds h0 h1 with rfl|rfl|rfl|rfl|rfl <;> decide+kernel
 have r:=(kU_rate h0 h1 t hd).2.2 Rat.le_refl
 have a:=fl_le (kU c t*(((kN c:Int):Rat)/((360:Int):Rat)))
 have b:=fl_lt (kU c (t+((kM c:Int):Rat)*kQ c)*(((kN c:Int):Rat)/((360:Int):Rat)))
 unfold kS
 generalize (kU c t*(((kN c:Int):Rat)/((360:Int):Rat))).floor =j at*
 have u:((j:Int):Rat)<(((kU c (t+((kM c:Int):Rat)*kQ c)*(((kN c:Int):Rat)/((360:Int):Rat))).floor :Int):Rat):=by
  refine Rat.not_le.1 fun q=>?_
  have:(kU c (t+((kM c:Int):Rat)*kQ c)*(((kN c:Int):Rat)/((360:Int):Rat))).floor <j+1:=Rat.intCast_lt_intCast.1 (by rw[Rat.intCast_add,Rat.intCast_one];grind)
  have k2:j+1≤(kU c (t+((kM c:Int):Rat)*kQ c)*(((kN c:Int):Rat)/((360:Int):Rat))).floor :=Rat.le_floor_iff.2 (by rw[Rat.intCast_add,Rat.intCast_one];grind)
  omega
 exact Rat.intCast_lt_intCast.1 u
def skp (x:Rat):Int:=(x*(((1:Int):Rat)/((14:Int):Rat))).floor
theorem fourteen:((1:Int):Rat)/((14:Int):Rat)=1/14:=by decide+kernel
theorem skp_le {x:Rat} {m:Int} (h:x≤134/10*((m:Int):Rat)) (hm:0<m):skp x≤m-1:=by
 have c:=Rat.intCast_lt_intCast.2 hm
 have:skp x<m:=Rat.floor_lt_iff.2 (by rw[fourteen];rw[Rat.intCast_zero] at c;grind)
 omega
theorem skp_ge {x:Rat} (h:0≤x):0≤skp x:=Rat.le_floor_iff.2 (by rw[fourteen,Rat.intCast_zero];grind)
theorem ph_days {a b:Int} (h:a≤b):phU ((b:Int):Rat)-phU ((a:Int):Rat)≤134/10*(((b-a:Int)):Rat):=by
 have c:0≤(((b-a:Int)):Rat):=Rat.intCast_nonneg.2 (by omega)
 have r:=(ph_rate ((a:Int):Rat) c).2
 have e:((a:Int):Rat)+(((b-a:Int)):Rat)=((b:Int):Rat):=by rw[←Rat.intCast_add];congr 1;omega
 rwa[e] at r
theorem last_skip {n L:Int} (h:L<n) (hc:comes L=true) (hn:∀m,L<m→m<n→¬comes m=true):0≤skp (phaseV ((n:Int):Rat))∧skp (phaseV ((n:Int):Rat))≤n-L-1:=by
 refine⟨skp_ge (phase_bd _).1,?_⟩
 have t1:dturn n=dturn (L+1):=none_between (by omega) fun m h1 h2=>hn m (by omega) h2
 have t2:=(comes_iff L).1 hc
 have a:=(turn_bd ((L:Int):Rat)).2
 have q:=phase_turn ((n:Int):Rat)
 have r:=ph_days (Int.le_of_lt h)
 have e:((turn ((n:Int):Rat):Int):Rat)=((turn ((L:Int):Rat):Int):Rat)+1:=by
  rw[show turn ((n:Int):Rat)=turn ((L:Int):Rat)+1 from t1.trans t2,Rat.intCast_add];rfl
 rw[e] at q
 rw[show((360:Int):Rat)=360 from rfl] at a q
 exact skp_le (by grind) (by omega)
theorem next_skip {n M:Int} (h:n<M) (hc:comes M=true) (hn:∀k,n<k→k<M→¬comes k=true):0≤skp (((360:Int):Rat)-phaseV (((n+1:Int)):Rat))∧n+1+skp (((360:Int):Rat)-phaseV (((n+1:Int)):Rat))≤M:=by
 have p:=phase_bd (((n+1:Int)):Rat)
 rw[show((360:Int):Rat)=360 from rfl]
 refine⟨skp_ge (by grind),?_⟩
 have t1:dturn M=dturn (n+1):=none_between (by omega) fun m h1 h2=>hn m (by omega) h2
 have t2:=(comes_iff M).1 hc
 have a:=(turn_bd (((M+1:Int)):Rat)).1
 have q:=phase_turn (((n+1:Int)):Rat)
 have r:=ph_days (a:=n+1) (b:=M+1) (by omega)
 have e:((turn (((M+1:Int)):Rat):Int):Rat)=((turn (((n+1:Int)):Rat):Int):Rat)+1:=by
  rw[show turn (((M+1:Int)):Rat)=turn (((n+1:Int)):Rat)+1 from by rw[show turn (((M+1:Int)):Rat)=dturn (M+1) from rfl,t2,t1];rfl,Rat.intCast_add];rfl
 rw[e] at a
 rw[show((360:Int):Rat)=360 from rfl] at a q
 have:=skp_le (x:=360-phaseV (((n+1:Int)):Rat)) (m:=M+1-(n+1)) (by grind) (by omega)
 omega
noncomputable def lastD (f:Int):Int:=Classical.choose (last_ex f)
theorem lastD_spec (f:Int):f-34≤lastD f∧lastD f<f∧comes (lastD f)=true∧∀m,lastD f<m→m<f→¬comes m=true:=Classical.choose_spec (last_ex f)
def nowC (t:Rat):Bool:=full ((t.floor:Int):Rat) && !full t
noncomputable def lastV (t:Rat):Int:=if nowC t=true then t.floor else lastD t.floor
theorem lastV_yes {t:Rat} (h:nowC t=true):lastV t=t.floor:=if_pos h
theorem lastV_no {t:Rat} (h:¬nowC t=true):lastV t=lastD t.floor:=if_neg h
theorem lastV_bd (t:Rat):t.floor-34≤lastV t∧lastV t≤t.floor:=by
 have s:=lastD_spec t.floor
 unfold lastV
 split <;> omega
theorem lastD_is {f n:Int} (h:lastD f≤n) (hn:n<f) (hc:comes n=true):n=lastD f:=by
 have s:=lastD_spec f
 by_cases e:lastD f<n
 ·exact absurd hc (s.2.2.2 n e hn)
 ·omega
theorem lastD_no {f n:Int} (h:lastD f≤n) (hc:¬comes n=true):lastD f<n:=by
 have s:=lastD_spec f
 by_cases e:n=lastD f
 ·rw[e] at hc;exact absurd s.2.2.1 hc
 ·omega
noncomputable def nextD (n:Int):Int:=if h:comes n=true then Classical.choose (next_ex h) else 0
theorem nextD_spec {n:Int} (h:comes n=true):n+28≤nextD n∧nextD n≤n+31∧comes (nextD n)=true∧∀k,n<k→k<nextD n→¬comes k=true:=by
 unfold nextD
 rw[dif_pos h]
 exact Classical.choose_spec (next_ex h)
theorem nextD_is {n m:Int} (h:comes n=true) (h1:n<m) (h2:m≤nextD n) (hc:comes m=true):m=nextD n:=by
 have s:=nextD_spec h
 by_cases e:m<nextD n
 ·exact absurd hc (s.2.2.2 m h1 e)
 ·omega
theorem nowC_int (n:Int):nowC ((n:Int):Rat)=false:=by
 unfold nowC
 rw[Rat.floor_intCast]
 cases full ((n:Int):Rat) <;> rfl
def ov (c:Int):Int:=if c=0 then 1 else 4
def pcs (c:Int) (t:Rat) (i:Int):Rat:=t+((i:Int):Rat)/((ov c:Int):Rat)
theorem ov_kQ (c:Int):((1:Int):Rat)/((ov c:Int):Rat)=kQ c:=by
 unfold ov kQ
 split <;> decide+kernel
theorem ov_bd (c:Int):1≤ov c∧ov c≤4:=by unfold ov;split <;> omega
theorem pcs_zero (c:Int) (t:Rat):pcs c t 0=t:=by unfold pcs;rw[Rat.intCast_zero,Rat.div_def,Rat.zero_mul,Rat.add_zero]
theorem pcs_kQ (c:Int) (t:Rat) (i:Int):pcs c t i=t+((i:Int):Rat)*kQ c:=by
 rw[←ov_kQ];unfold pcs
 rw[Rat.div_def,Rat.div_def,show((1:Int):Rat)=1 from rfl,Rat.one_mul]
theorem pcs_succ (c:Int) (t:Rat) (i:Int):pcs c t (i+1)=pcs c t i+kQ c:=by
 rw[pcs_kQ,pcs_kQ,Rat.intCast_add,show((1:Int):Rat)=1 from rfl]
 generalize kQ c=q
 generalize ((i:Int):Rat)=x
 grind
theorem kQ_bd (c:Int):0≤kQ c∧kQ c≤1:=by unfold kQ;split <;> exact⟨by decide+kernel,by decide+kernel⟩
theorem mod_ne {a n:Int} (h:2≤n):(a+1)%n≠a%n:=by
 intro e
 have h1:(a+1-a)%n=0:=Int.emod_eq_emod_iff_emod_sub_eq_zero.1 e
 rw[show a+1-a=1 by omega,Int.emod_eq_of_lt (by decide) (by omega)] at h1
 cases h1
theorem kS_same {c:Int} (h0:0≤c) (h1:c≤4) (t:Rat) {d:Rat} (hd:0≤d) (hq:d≤kQ c) (e:kI c (t+d)=kI c t):kS c (t+d)=kS c t:=by
 rcases kS_step h0 h1 t hd hq with q|q
 ·exact q
 ·exfalso
  rw[kI_mod h0 h1,kI_mod h0 h1,q] at e
  exact mod_ne (by have:=kN_bd c;omega) e
theorem kS_next {c:Int} (h0:0≤c) (h1:c≤4) (t:Rat) {d:Rat} (hd:0≤d) (hq:d≤kQ c) (e:kI c (t+d)≠kI c t):kS c (t+d)=kS c t+1:=by
 rcases kS_step h0 h1 t hd hq with q|q
 ·exact absurd (by rw[kI_mod h0 h1,kI_mod h0 h1,q]) e
 ·exact q
theorem pcs_same {c:Int} (h0:0≤c) (h1:c≤4) (t:Rat):∀k:Nat,(∀i:Nat,i≤k→kI c (pcs c t ((i:Nat):Int))=kI c t)→kS c (pcs c t ((k:Nat):Int))=kS c t:=by
 intro k
 induction k with
 |zero=>intro _;rw[show(((0:Nat)):Int)=0 from rfl,pcs_zero]
 |succ k ih=>
  intro h
  rw[←ih fun i hi=>h i (by omega),show(((k+1:Nat)):Int)=((k:Nat):Int)+1 by omega,pcs_succ]
  refine kS_same h0 h1 _ (kQ_bd c).1 (Rat.le_refl) ?_
  rw[←pcs_succ,show((k:Nat):Int)+1=(((k+1:Nat)):Int) by omega,h (k+1) (by omega),h k (by omega)]
theorem piece_ex {c:Int} (h0:0≤c) (h1:c≤4) (t:Rat):∃k:Nat,((k:Nat):Int)<kM c∧(∀i:Nat,i≤k→kI c (pcs c t ((i:Nat):Int))=kI c t)∧kI c (pcs c t (((k:Nat):Int)+1))≠kI c t:=by
 have key:∀m:Nat,(∀i:Nat,i≤m→kI c (pcs c t ((i:Nat):Int))=kI c t)∨∃k:Nat,k<m∧(∀i:Nat,i≤k→kI c (pcs c t ((i:Nat):Int))=kI c t)∧kI c (pcs c t (((k:Nat):Int)+1))≠kI c t:=by
  intro m
  induction m with
  |zero=>left;intro i hi;rw[show i=0 by omega,show(((0:Nat)):Int)=0 from rfl,pcs_zero]
  |succ m ih=>
   rcases ih with ih|⟨k,hk,a⟩
   ·by_cases e:kI c (pcs c t (((m:Nat):Int)+1))=kI c t
    ·left;intro i hi
     by_cases q:i≤m
     ·exact ih i q
     ·rw[show((i:Nat):Int)=((m:Nat):Int)+1 by omega];exact e
    ·exact .inr ⟨m,by omega,ih,e⟩
   ·exact .inr ⟨k,by omega,a⟩
 have hM:(((kM c).toNat :Nat):Int)=kM c:=by unfold kM;split <;> rfl
 rcases key (kM c).toNat with h|⟨k,hk,a⟩
 ·exfalso
  have e:=pcs_same h0 h1 t _ h
  rw[hM,pcs_kQ] at e
  have:=kI_far h0 h1 t
  omega
 ·exact⟨k,by omega,a⟩
noncomputable def pieceV (c:Int) (t:Rat):Nat:=if h:0≤c∧c≤4 then Classical.choose (piece_ex h.1 h.2 t) else 0
theorem piece_spec {c:Int} (h0:0≤c) (h1:c≤4) (t:Rat):((pieceV c t:Nat):Int)<kM c∧(∀i:Nat,i≤pieceV c t→kI c (pcs c t ((i:Nat):Int))=kI c t)∧kI c (pcs c t (((pieceV c t:Nat):Int)+1))≠kI c t:=by
 unfold pieceV
 rw[dif_pos ⟨h0,h1⟩]
 exact Classical.choose_spec (piece_ex h0 h1 t)
theorem piece_same {c:Int} (h0:0≤c) (h1:c≤4) (t:Rat):kS c (pcs c t ((pieceV c t:Nat):Int))=kS c t:=pcs_same h0 h1 t _ (piece_spec h0 h1 t).2.1
noncomputable def elo (c:Int) (t:Rat):Rat:=pcs c t ((pieceV c t:Nat):Int)
noncomputable def ehi (c:Int) (t:Rat):Rat:=pcs c t (((pieceV c t:Nat):Int)+1)
def notI (c was:Int) (x:Rat):Bool:=decide (kI c x≠was)
noncomputable def endA (c:Int) (t:Rat):Rat:=hlo (notI c (kI c t)) (elo c t) (ehi c t) 21
noncomputable def endB (c:Int) (t:Rat):Rat:=hhi (notI c (kI c t)) (elo c t) (ehi c t) 21
theorem ehi_lo (c:Int) (t:Rat):ehi c t=elo c t+kQ c:=pcs_succ c t _
theorem notI_f {c was:Int} {x:Rat}:notI c was x=false↔kI c x=was:=by unfold notI;rw[decide_eq_false_iff_not];exact Decidable.not_not
theorem notI_t {c was:Int} {x:Rat}:notI c was x=true↔kI c x≠was:=decide_eq_true_iff
theorem elo_f {c:Int} (h0:0≤c) (h1:c≤4) (t:Rat):notI c (kI c t) (elo c t)=false:=notI_f.2 ((piece_spec h0 h1 t).2.1 _ (Nat.le_refl _))
theorem ehi_t {c:Int} (h0:0≤c) (h1:c≤4) (t:Rat):notI c (kI c t) (ehi c t)=true:=notI_t.2 (piece_spec h0 h1 t).2.2
theorem endA_f {c:Int} (h0:0≤c) (h1:c≤4) (t:Rat):kI c (endA c t)=kI c t:=notI_f.1 (hlv_left _ (elo_f h0 h1 t) 21)
theorem endB_t {c:Int} (h0:0≤c) (h1:c≤4) (t:Rat):kI c (endB c t)≠kI c t:=notI_t.1 (hlv_right _ (ehi_t h0 h1 t) 21)
theorem end_len (c:Int) (t:Rat):endB c t-endA c t=kQ c*(1/2097152):=by
 have h:=hlv_len (notI c (kI c t)) (elo c t) (ehi c t) 21
 rw[ehi_lo,show((1:Int):Rat)/(((2^21:Int):Int):Rat)=1/2097152 by decide+kernel] at h
 rw[show endB c t-endA c t=(elo c t+kQ c-elo c t)*(1/2097152) from by rw[←ehi_lo] at*;exact h]
 generalize kQ c=q
 grind
theorem piece_go {c:Int} (h0:0≤c) (h1:c≤4) {t:Rat} {i:Nat} (h:i≤pieceV c t) (e:kI c (pcs c t (((i:Nat):Int)+1))=kI c t):i+1≤pieceV c t:=by
 have s:=piece_spec h0 h1 t
 by_cases q:i=pieceV c t
 ·rw[q] at e;exact absurd e s.2.2
 ·omega
theorem piece_stop {c:Int} (h0:0≤c) (h1:c≤4) {t:Rat} {i:Nat} (h:i≤pieceV c t) (e:kI c (pcs c t (((i:Nat):Int)+1))≠kI c t):i=pieceV c t:=by
 have s:=piece_spec h0 h1 t
 by_cases q:i+1≤pieceV c t
 ·have:=s.2.1 (i+1) q
  rw[show(((i+1:Nat)):Int)=((i:Nat):Int)+1 by omega] at this
  exact absurd this e
 ·omega
theorem kM_bd (c:Int):kM c≤34:=by unfold kM;split <;> omega
theorem pcs_lim {c:Int} {t:Rat} {k:Nat} {i:Int} (h:RLim t k) (h0:0≤i) (h1:i≤1000):RLim (pcs c t i) (k+3):=by
 have o:=ov_bd c
 have e:B32^1=4294967296:=rfl
 exact(rlim_add h (dq_lim (n:=i) (d:=ov c) (k:=1) (by omega) (by omega) (by decide))).up _ (by omega)
theorem kS_up {c:Int} (h0:0≤c) (h1:c≤4) {a b:Rat} (h:a≤b):kS c a≤kS c b:=by
 have r:=(kU_rate h0 h1 a (d:=b-a) (by grind)).1
 rw[show a+(b-a)=b by grind] at r
 unfold kS
 exact Rat.le_floor_iff.2 (Rat.le_trans (fl_le _) (by grind))
theorem frac_bd {k n:Int} (h0:0≤k) (h1:k≤n) (hn:0<n):0≤((k:Int):Rat)/((n:Int):Rat)∧((k:Int):Rat)/((n:Int):Rat)≤1:=by
 have a:0≤((k:Int):Rat):=Rat.intCast_nonneg.2 h0
 have b:((k:Int):Rat)≤((n:Int):Rat):=Rat.intCast_le_intCast.2 h1
 have c:0<((n:Int):Rat):=Rat.intCast_pos.2 hn
 have d:0<((n:Int):Rat)⁻¹ :=Rat.inv_pos.2 c
 have e:((n:Int):Rat)*((n:Int):Rat)⁻¹ =1:=Rat.mul_inv_cancel _ (by grind)
 rw[Rat.div_def]
 generalize ((n:Int):Rat)⁻¹ =y at*
 generalize ((n:Int):Rat)=x at*
 generalize ((k:Int):Rat)=z at*
 refine⟨Rat.mul_nonneg a (Rat.le_of_lt d),?_⟩
 have:=Rat.mul_le_mul_of_nonneg_right b (Rat.le_of_lt d)
 grind
theorem atR_bd {lo hi:Rat} (h:lo≤hi) {k n:Int} (h0:0≤k) (h1:k≤n) (hn:0<n):lo≤atR lo hi k n∧atR lo hi k n≤hi:=by
 have f:=frac_bd h0 h1 hn
 unfold atR
 generalize ((k:Int):Rat)/((n:Int):Rat)=y at*
 have g:0≤hi-lo:=by grind
 have a:=Rat.mul_nonneg g f.1
 have b:=Rat.mul_le_mul_of_nonneg_left f.2 g
 constructor <;> grind
theorem hlo_bd (p:Rat→Bool) {lo hi:Rat} (h:lo≤hi) (n:Nat):lo≤hlo p lo hi n∧hlo p lo hi n≤hi:=atR_bd h (hlv_bd p lo hi n).1 (by have:=hlv_bd p lo hi n;omega) (two_pos n)
theorem kQ_pos (c:Int):0<kQ c:=by unfold kQ;split <;> decide+kernel
theorem endA_in (c:Int) (t:Rat):elo c t≤endA c t∧endA c t≤elo c t+kQ c:=by
 have h:=hlo_bd (notI c (kI c t)) (lo:=elo c t) (hi:=ehi c t) (by rw[ehi_lo];have:=kQ_pos c;grind) 21
 rw[ehi_lo] at h
 unfold endA
 rw[ehi_lo]
 exact h
theorem endA_s {c:Int} (h0:0≤c) (h1:c≤4) (t:Rat):kS c (endA c t)=kS c t:=by
 have i:=endA_in c t
 have p:=piece_same h0 h1 t
 have f:=endA_f h0 h1 t
 have g:=notI_f.1 (elo_f h0 h1 t)
 rw[←p]
 have s:=kS_same h0 h1 (elo c t) (d:=endA c t-elo c t) (by grind) (by grind)
 rw[show elo c t+(endA c t-elo c t)=endA c t by grind] at s
 exact s (by rw[f,g])
theorem end_step (c:Int) (t:Rat):endB c t=endA c t+kQ c*(1/2097152):=by have:=end_len c t;grind
theorem kQ_small (c:Int):0≤kQ c*(1/2097152)∧kQ c*(1/2097152)≤kQ c∧kQ c*(1/2097152)<1/1048576:=by
 unfold kQ
 split
 ·exact⟨by decide+kernel,by decide+kernel,by decide+kernel⟩
 ·exact⟨by decide+kernel,by decide+kernel,by decide+kernel⟩
theorem endB_s {c:Int} (h0:0≤c) (h1:c≤4) (t:Rat):kS c (endB c t)=kS c t+1:=by
 have q:=kQ_small c
 have e:=kS_next h0 h1 (endA c t) q.1 q.2.1 (by rw[←end_step,endA_f h0 h1];exact endB_t h0 h1 t)
 rw[←end_step,endA_s h0 h1] at e
 exact e
theorem endB_i {c:Int} (h0:0≤c) (h1:c≤4) (t:Rat):kI c (endB c t)=(kI c t+1)%kN c:=by
 rw[kI_mod h0 h1,kI_mod h0 h1,endB_s h0 h1]
 exact(Int.emod_add_emod _ _ _).symm
theorem end_near (c:Int) (t:Rat):endB c t-endA c t<1/1048576:=by have:=end_step c t;have:=kQ_small c;grind
end Go.Proofs.YtplngpfpcheofaaGreatDoor
