import Derived.Test.YtplngpfpcheofaaGreatDoorKB31
import Derived.Test.YtplngpfpcheofaaGreatDoorKB32
namespace Go.Proofs.YtplngpfpcheofaaGreatDoor
open Go.RowKit
set_option maxRecDepth 100000
set_option linter.unusedVariables false
set_option maxHeartbeats 8000000
def skp (x:Rat):Int:=(x*(((1:Int):Rat)/((14:Int):Rat))).floor
theorem fourteen:((1:Int):Rat)/((14:Int):Rat)=1/14:=by decide+kernel
theorem skp_le {x:Rat} {m:Int} (h:x≤134/10*((m:Int):Rat)) (hm:0<m):skp x≤m-1:=by
 have c:=Rat.intCast_lt_intCast.2 hm
 have:skp x<m:=Rat.floor_lt_iff.2 (by rw[fourteen];rw[Rat.intCast_zero] at c;grind)
 omega
theorem skp_ge {x:Rat} (h:0≤x):0≤skp x:=Rat.le_floor_iff.2 (by rw[fourteen,Rat.intCast_zero];grind)
theorem ph_days {a b:Int} (h:a≤b):phU ((b:Int):Rat)-phU ((a:Int):Rat)≤134/10*(((b-a:Int)):Rat):=by
 have c:0≤(((b-a:Int)):Rat):=Rat.intCast_nonneg.2 (by omega)
 have r:=(ph_rate ((a:Int):Rat) c).2
 have e:((a:Int):Rat)+(((b-a:Int)):Rat)=((b:Int):Rat):=by rw[←Rat.intCast_add];congr 1;omega
 rwa[e] at r
theorem last_skip {n L:Int} (h:L<n) (hc:comes L=true) (hn:∀m,L<m→m<n→¬comes m=true):0≤skp (phaseV ((n:Int):Rat))∧skp (phaseV ((n:Int):Rat))≤n-L-1:=by
 refine⟨skp_ge (phase_bd _).1,?_⟩
 have t1:dturn n=dturn (L+1):=none_between (by omega) fun m h1 h2=>hn m (by omega) h2
 have t2:=(comes_iff L).1 hc
 have a:=(turn_bd ((L:Int):Rat)).2
 have q:=phase_turn ((n:Int):Rat)
 have r:=ph_days (Int.le_of_lt h)
 have e:((turn ((n:Int):Rat):Int):Rat)=((turn ((L:Int):Rat):Int):Rat)+1:=by
  rw[show turn ((n:Int):Rat)=turn ((L:Int):Rat)+1 from t1.trans t2,Rat.intCast_add];rfl
 rw[e] at q
 rw[show((360:Int):Rat)=360 from rfl] at a q
 exact skp_le (by grind) (by omega)
noncomputable def lastD (f:Int):Int:=Classical.choose (last_ex f)
theorem lastD_spec (f:Int):f-34≤lastD f∧lastD f<f∧comes (lastD f)=true∧∀m,lastD f<m→m<f→¬comes m=true:=Classical.choose_spec (last_ex f)
def nowC (t:Rat):Bool:=full ((t.floor:Int):Rat) && !full t
noncomputable def lastV (t:Rat):Int:=if nowC t=true then t.floor else lastD t.floor
theorem lastV_yes {t:Rat} (h:nowC t=true):lastV t=t.floor:=if_pos h
theorem lastV_no {t:Rat} (h:¬nowC t=true):lastV t=lastD t.floor:=if_neg h
theorem lastV_bd (t:Rat):t.floor-34≤lastV t∧lastV t≤t.floor:=by
 have s:=lastD_spec t.floor
 unfold lastV
 split <;> omega
theorem lastD_is {f n:Int} (h:lastD f≤n) (hn:n<f) (hc:comes n=true):n=lastD f:=by
 have s:=lastD_spec f
 by_cases e:lastD f<n
 ·exact absurd hc (s.2.2.2 n e hn)
 ·omega
theorem lastD_no {f n:Int} (h:lastD f≤n) (hc:¬comes n=true):lastD f<n:=by
 have s:=lastD_spec f
 by_cases e:n=lastD f
 ·rw[e] at hc;exact absurd s.2.2.1 hc
 ·omega
theorem nowC_int (n:Int):nowC ((n:Int):Rat)=false:=by
 unfold nowC
 rw[Rat.floor_intCast]
 cases full ((n:Int):Rat) <;> rfl
def ov (c:Int):Int:=if c=0 then 1 else 4
def pcs (c:Int) (t:Rat) (i:Int):Rat:=t+((i:Int):Rat)/((ov c:Int):Rat)
theorem ov_kQ (c:Int):((1:Int):Rat)/((ov c:Int):Rat)=kQ c:=by
 unfold ov kQ
 split <;> decide+kernel
theorem ov_bd (c:Int):1≤ov c∧ov c≤4:=by unfold ov;split <;> omega
theorem pcs_zero (c:Int) (t:Rat):pcs c t 0=t:=by unfold pcs;rw[Rat.intCast_zero,Rat.div_def,Rat.zero_mul,Rat.add_zero]
theorem pcs_kQ (c:Int) (t:Rat) (i:Int):pcs c t i=t+((i:Int):Rat)*kQ c:=by
 rw[←ov_kQ];unfold pcs
 rw[Rat.div_def,Rat.div_def,show((1:Int):Rat)=1 from rfl,Rat.one_mul]
theorem pcs_succ (c:Int) (t:Rat) (i:Int):pcs c t (i+1)=pcs c t i+kQ c:=by
 rw[pcs_kQ,pcs_kQ,Rat.intCast_add,show((1:Int):Rat)=1 from rfl]
 generalize kQ c=q
 generalize ((i:Int):Rat)=x
 grind
theorem kQ_bd (c:Int):0≤kQ c∧kQ c≤1:=by unfold kQ;split <;> exact⟨by decide+kernel,by decide+kernel⟩
theorem mod_ne {a n:Int} (h:2≤n):(a+1)%n≠a%n:=by
 intro e
 have h1:(a+1-a)%n=0:=Int.emod_eq_emod_iff_emod_sub_eq_zero.1 e
 rw[show a+1-a=1 by omega,Int.emod_eq_of_lt (by decide) (by omega)] at h1
 cases h1
theorem kS_same {c:Int} (h0:0≤c) (h1:c≤4) (t:Rat) {d:Rat} (hd:0≤d) (hq:d≤kQ c) (e:kI c (t+d)=kI c t):kS c (t+d)=kS c t:=by
 rcases kS_step h0 h1 t hd hq with q|q
 ·exact q
 ·exfalso
  rw[kI_mod h0 h1,kI_mod h0 h1,q] at e
  exact mod_ne (by have:=kN_bd c;omega) e
theorem kS_next {c:Int} (h0:0≤c) (h1:c≤4) (t:Rat) {d:Rat} (hd:0≤d) (hq:d≤kQ c) (e:kI c (t+d)≠kI c t):kS c (t+d)=kS c t+1:=by
 rcases kS_step h0 h1 t hd hq with q|q
 ·exact absurd (by rw[kI_mod h0 h1,kI_mod h0 h1,q]) e
 ·exact q
theorem pcs_same {c:Int} (h0:0≤c) (h1:c≤4) (t:Rat):∀k:Nat,(∀i:Nat,i≤k→kI c (pcs c t ((i:Nat):Int))=kI c t)→kS c (pcs c t ((k:Nat):Int))=kS c t:=by
 intro k
 induction k with
 |zero=>intro _;rw[show(((0:Nat)):Int)=0 from rfl,pcs_zero]
 |succ k ih=>
  intro h
  rw[←ih fun i hi=>h i (by omega),show(((k+1:Nat)):Int)=((k:Nat):Int)+1 by omega,pcs_succ]
  refine kS_same h0 h1 _ (kQ_bd c).1 (Rat.le_refl) ?_
  rw[←pcs_succ,show((k:Nat):Int)+1=(((k+1:Nat)):Int) by omega,h (k+1) (by omega),h k (by omega)]
theorem piece_ex {c:Int} (h0:0≤c) (h1:c≤4) (t:Rat):∃k:Nat,((k:Nat):Int)<kM c∧(∀i:Nat,i≤k→kI c (pcs c t ((i:Nat):Int))=kI c t)∧kI c (pcs c t (((k:Nat):Int)+1))≠kI c t:=by
 have key:∀m:Nat,(∀i:Nat,i≤m→kI c (pcs c t ((i:Nat):Int))=kI c t)∨∃k:Nat,k<m∧(∀i:Nat,i≤k→kI c (pcs c t ((i:Nat):Int))=kI c t)∧kI c (pcs c t (((k:Nat):Int)+1))≠kI c t:=by
  intro m
  induction m with
  |zero=>left;intro i hi;rw[show i=0 by omega,show(((0:Nat)):Int)=0 from rfl,pcs_zero]
  |succ m ih=>
   rcases ih with ih|⟨k,hk,a⟩
   ·by_cases e:kI c (pcs c t (((m:Nat):Int)+1))=kI c t
    ·left;intro i hi
     by_cases q:i≤m
     ·exact ih i q
     ·rw[show((i:Nat):Int)=((m:Nat):Int)+1 by omega];exact e
    ·exact .inr ⟨m,by omega,ih,e⟩
   ·exact .inr ⟨k,by omega,a⟩
 have hM:(((kM c).toNat :Nat):Int)=kM c:=by unfold kM;split <;> rfl
 rcases key (kM c).toNat with h|⟨k,hk,a⟩
 ·exfalso
  have e:=pcs_same h0 h1 t _ h
  rw[hM,pcs_kQ] at e
  have:=kI_far h0 h1 t
  omega
 ·exact⟨k,by omega,a⟩
noncomputable def pieceV (c:Int) (t:Rat):Nat:=if h:0≤c∧c≤4 then Classical.choose (piece_ex h.1 h.2 t) else 0
theorem piece_spec {c:Int} (h0:0≤c) (h1:c≤4) (t:Rat):((pieceV c t:Nat):Int)<kM c∧(∀i:Nat,i≤pieceV c t→kI c (pcs c t ((i:Nat):Int))=kI c t)∧kI c (pcs c t (((pieceV c t:Nat):Int)+1))≠kI c t:=by
 unfold pieceV
 rw[dif_pos ⟨h0,h1⟩]
 exact Classical.choose_spec (piece_ex h0 h1 t)
theorem piece_same {c:Int} (h0:0≤c) (h1:c≤4) (t:Rat):kS c (pcs c t ((pieceV c t:Nat):Int))=kS c t:=pcs_same h0 h1 t _ (piece_spec h0 h1 t).2.1
noncomputable def elo (c:Int) (t:Rat):Rat:=pcs c t ((pieceV c t:Nat):Int)
noncomputable def ehi (c:Int) (t:Rat):Rat:=pcs c t (((pieceV c t:Nat):Int)+1)
def notI (c was:Int) (x:Rat):Bool:=decide (kI c x≠was)
noncomputable def endA (c:Int) (t:Rat):Rat:=hlo (notI c (kI c t)) (elo c t) (ehi c t) 21
noncomputable def endB (c:Int) (t:Rat):Rat:=hhi (notI c (kI c t)) (elo c t) (ehi c t) 21
theorem ehi_lo (c:Int) (t:Rat):ehi c t=elo c t+kQ c:=pcs_succ c t _
theorem notI_f {c was:Int} {x:Rat}:notI c was x=false↔kI c x=was:=by unfold notI;rw[decide_eq_false_iff_not];exact Decidable.not_not
theorem notI_t {c was:Int} {x:Rat}:notI c was x=true↔kI c x≠was:=decide_eq_true_iff
theorem elo_f {c:Int} (h0:0≤c) (h1:c≤4) (t:Rat):notI c (kI c t) (elo c t)=false:=notI_f.2 ((piece_spec h0 h1 t).2.1 _ (Nat.le_refl _))
theorem ehi_t {c:Int} (h0:0≤c) (h1:c≤4) (t:Rat):notI c (kI c t) (ehi c t)=true:=notI_t.2 (piece_spec h0 h1 t).2.2
theorem endA_f {c:Int} (h0:0≤c) (h1:c≤4) (t:Rat):kI c (endA c t)=kI c t:=notI_f.1 (hlv_left _ (elo_f h0 h1 t) 21)
theorem endB_t {c:Int} (h0:0≤c) (h1:c≤4) (t:Rat):kI c (endB c t)≠kI c t:=notI_t.1 (hlv_right _ (ehi_t h0 h1 t) 21)
theorem end_len (c:Int) (t:Rat):endB c t-endA c t=kQ c*(1/2097152):=by
 have h:=hlv_len (notI c (kI c t)) (elo c t) (ehi c t) 21
 rw[ehi_lo,show((1:Int):Rat)/(((2^21:Int):Int):Rat)=1/2097152 by decide+kernel] at h
 rw[show endB c t-endA c t=(elo c t+kQ c-elo c t)*(1/2097152) from by rw[←ehi_lo] at*;exact h]
 generalize kQ c=q
 grind
theorem piece_go {c:Int} (h0:0≤c) (h1:c≤4) {t:Rat} {i:Nat} (h:i≤pieceV c t) (e:kI c (pcs c t (((i:Nat):Int)+1))=kI c t):i+1≤pieceV c t:=by
 have s:=piece_spec h0 h1 t
 by_cases q:i=pieceV c t
 ·rw[q] at e;exact absurd e s.2.2
 ·omega
theorem piece_stop {c:Int} (h0:0≤c) (h1:c≤4) {t:Rat} {i:Nat} (h:i≤pieceV c t) (e:kI c (pcs c t (((i:Nat):Int)+1))≠kI c t):i=pieceV c t:=by
 have s:=piece_spec h0 h1 t
 by_cases q:i+1≤pieceV c t
 ·have:=s.2.1 (i+1) q
  rw[show(((i+1:Nat)):Int)=((i:Nat):Int)+1 by omega] at this
  exact absurd this e
 ·omega
theorem kM_bd (c:Int):kM c≤34:=by unfold kM;split <;> omega
theorem pcs_lim {c:Int} {t:Rat} {k:Nat} {i:Int} (h:RLim t k) (h0:0≤i) (h1:i≤1000):RLim (pcs c t i) (k+3):=by
 have o:=ov_bd c
 have e:B32^1=4294967296:=rfl
 exact(rlim_add h (dq_lim (n:=i) (d:=ov c) (k:=1) (by omega) (by omega) (by decide))).up _ (by omega)
end Go.Proofs.YtplngpfpcheofaaGreatDoor
