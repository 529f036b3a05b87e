import Derived.Test.YtplngpfpcheofaaGreatDoorKA39
namespace Go.Proofs.YtplngpfpcheofaaGreatDoor
open Go.RowKit
set_option maxRecDepth 100000
set_option linter.unusedVariables false
set_option maxHeartbeats 8000000
theorem full_qc (t:Rat):decide (0≤qc (phaseV t) ((180:Int):Rat))=full t:=by
 have h:=wax_qc t
 unfold wax at h
 cases e:full t with
 |true=>rw[e] at h;exact decide_eq_true (by have:=of_decide_eq_false h;omega)
 |false=>rw[e] at h;exact decide_eq_false (by have:=of_decide_eq_true h;omega)
theorem wax_f {t:Rat}:wax t=false↔full t=true:=by unfold wax;cases full t <;> simp
theorem wax_t {t:Rat}:wax t=true↔full t=false:=by unfold wax;cases full t <;> simp
theorem comes_lr {n:Int} (h:comes n=true):wax ((n:Int):Rat)=false∧wax (((n+1:Int)):Rat)=true:=by
 unfold comes at h
 rw[Bool.and_eq_true,Bool.not_eq_true'] at h
 exact⟨wax_f.2 h.1,wax_t.2 h.2⟩
def nmL (n:Int):Rat:=hlo wax ((n:Int):Rat) (((n+1:Int)):Rat) 10
def nmR (n:Int):Rat:=hhi wax ((n:Int):Rat) (((n+1:Int)):Rat) 10
theorem nmL_w {n:Int} (h:comes n=true):wax (nmL n)=false:=hlv_left _ (comes_lr h).1 10
theorem nmR_w {n:Int} (h:comes n=true):wax (nmR n)=true:=hlv_right _ (comes_lr h).2 10
theorem full_ge {t:Rat} (h:full t=true):0≤qc (phaseV t) ((180:Int):Rat):=by rw[←full_qc] at h;exact of_decide_eq_true h
theorem full_lt {t:Rat} (h:full t=false):qc (phaseV t) ((180:Int):Rat)<0:=by rw[←full_qc] at h;have:=of_decide_eq_false h;omega
def enL (n:Int):Rat:=hlo (notI 0 (kI 0 ((n:Int):Rat))) ((n:Int):Rat) (((n+1:Int)):Rat) 21
def enR (n:Int):Rat:=hhi (notI 0 (kI 0 ((n:Int):Rat))) ((n:Int):Rat) (((n+1:Int)):Rat) 21
theorem en_len (n:Int):enR n=enL n+1/2097152:=by
 have h:=hlv_len (notI 0 (kI 0 ((n:Int):Rat))) ((n:Int):Rat) (((n+1:Int)):Rat) 21
 rw[show((1:Int):Rat)/(((2^21:Int):Int):Rat)=1/2097152 by decide+kernel,day_next] at h
 unfold enR enL
 rw[day_next]
 grind
theorem en_l (n:Int):kI 0 (enL n)=kI 0 ((n:Int):Rat):=notI_f.1 (hlv_left _ (notI_f.2 rfl) 21)
theorem en_r {n:Int} (h:kI 0 (((n+1:Int)):Rat)≠kI 0 ((n:Int):Rat)):kI 0 (enR n)=(kI 0 ((n:Int):Rat)+1)%12:=by
 have ne:kI 0 (enR n)≠kI 0 ((n:Int):Rat):=notI_t.1 (hlv_right _ (notI_t.2 h) 21)
 rw[en_len] at ne ⊢
 have k:=kI_next (c:=0) (by decide) (by decide) (enL n) (d:=1/2097152) (by decide+kernel) (by decide+kernel) (by rw[en_l];exact ne)
 rw[en_l] at k
 exact k
def lastN (t:Rat):Int:=min (t.floor-1) ((t-phaseV t*(((10:Int):Rat)/((135:Int):Rat))).floor)
theorem lastN_bd {t:Rat} (no:¬nowC t=true):lastD t.floor≤lastN t∧lastN t≤t.floor-1∧t.floor-34≤lastD t.floor:=by
 have s:=lastD_spec t.floor
 have f:=last_from (t:=t) (f:=t.floor) (L:=lastD t.floor) rfl (by unfold nowC at no;rw[Bool.and_eq_true,Bool.not_eq_true'] at no;exact no) s.2.1 s.2.2.1 s.2.2.2
 unfold lastN
 omega
theorem lastX_bd (t:Rat):t.floor-30≤((t-phaseV t*(((10:Int):Rat)/((135:Int):Rat))).floor)∧((t-phaseV t*(((10:Int):Rat)/((135:Int):Rat))).floor)≤t.floor:=by
 have b:=phase_bd t
 have a:=fl_le t
 have c:=fl_lt t
 rw[show((10:Int):Rat)/((135:Int):Rat)=10/135 by decide+kernel]
 constructor
 ·exact Rat.le_floor_iff.2 (by rw[Rat.intCast_sub,show((30:Int):Rat)=30 from rfl];grind)
 ·have:(t-phaseV t*(10/135)).floor <t.floor+1:=Rat.floor_lt_iff.2 (by rw[Rat.intCast_add,Rat.intCast_one];grind)
  omega
theorem fl_quo {n d:Int} (hd:0<d):(((n:Int):Rat)/((d:Int):Rat)).floor =n/d:=by
 have c:0<((d:Int):Rat):=Rat.intCast_pos.2 hd
 have e:((n:Int):Rat)/((d:Int):Rat)*((d:Int):Rat)=((n:Int):Rat):=Rat.div_mul_cancel (by grind)
 have m0:=Int.mul_ediv_add_emod n d
 have m1:=Int.emod_nonneg n (b:=d) (by omega)
 have m2:=Int.emod_lt_of_pos n hd
 have a:n/d≤(((n:Int):Rat)/((d:Int):Rat)).floor :=by
  refine Rat.le_floor_iff.2 (Rat.not_lt.1 fun q=>?_)
  have q2:=Rat.mul_lt_mul_of_pos_right q c
  rw[e,←Rat.intCast_mul] at q2
  have:=Rat.intCast_lt_intCast.1 q2
  rw[Int.mul_comm] at this
  omega
 have b:(((n:Int):Rat)/((d:Int):Rat)).floor <n/d+1:=by
  refine Rat.floor_lt_iff.2 (Rat.not_le.1 fun q=>?_)
  have q2:=Rat.mul_le_mul_of_nonneg_right q (Rat.le_of_lt c)
  rw[e,←Rat.intCast_mul] at q2
  have:=Rat.intCast_le_intCast.1 q2
  rw[Int.add_mul,Int.one_mul,Int.mul_comm] at this
  omega
 omega
theorem rlim_quo {q:Rat} {n d:Int} (hq:q=((n:Int):Rat)/((d:Int):Rat)) {k:Nat} (h1:n.natAbs<B32^k) (h2:d.natAbs<B32^k) (hd:0<d) (hk:1≤k):RLim q k:=by
 subst hq
 exact(rlim_mk2 (z:=n) (y:=d) (a:=k) (b:=k) h1 h2).up _ (by omega)
theorem pcs_quo (c n i:Int):pcs c (((n:Int):Rat)/((4096:Int):Rat)) i=(((n*ov c+i*4096:Int)):Rat)/(((4096*ov c:Int)):Rat):=by
 have o:=ov_bd c
 have h:=cast_ne (n:=ov c) (by omega)
 unfold pcs
 rw[Rat.intCast_add,Rat.intCast_mul,Rat.intCast_mul,Rat.intCast_mul,show((4096:Int):Rat)=4096 from rfl]
 generalize ((ov c:Int):Rat)=x at*
 generalize ((n:Int):Rat)=y at*
 generalize ((i:Int):Rat)=z at*
 grind
theorem at_quo (c n i k:Int):atR (pcs c (((n:Int):Rat)/((4096:Int):Rat)) i) (pcs c (((n:Int):Rat)/((4096:Int):Rat)) (i+1)) k 2097152=((((n*ov c+i*4096)*2097152+k*4096:Int)):Rat)/(((4096*ov c*2097152:Int)):Rat):=by
 have o:=ov_bd c
 have h:=cast_ne (n:=ov c) (by omega)
 unfold atR
 rw[pcs_quo,pcs_quo]
 simp only [Rat.intCast_add,Rat.intCast_mul]
 rw[show((4096:Int):Rat)=4096 from rfl,show((2097152:Int):Rat)=2097152 from rfl,show((1:Int):Rat)=1 from rfl]
 generalize ((ov c:Int):Rat)=x at*
 generalize ((n:Int):Rat)=y at*
 generalize ((i:Int):Rat)=z at*
 generalize ((k:Int):Rat)=u at*
 grind
theorem day_quo (n k:Int):atR ((n:Int):Rat) (((n+1:Int)):Rat) k 2097152=(((n*2097152+k:Int)):Rat)/((2097152:Int):Rat):=by
 unfold atR
 simp only [Rat.intCast_add,Rat.intCast_mul]
 rw[show((2097152:Int):Rat)=2097152 from rfl,show((1:Int):Rat)=1 from rfl]
 generalize ((n:Int):Rat)=y at*
 generalize ((k:Int):Rat)=u at*
 grind
theorem b32_two:B32^2=18446744073709551616:=rfl
theorem pcs_lim2 {c n i:Int} (h0: -12300000000≤n) (h1:n≤12300000000) (i0:0≤i) (i1:i≤1000):RLim (pcs c (((n:Int):Rat)/((4096:Int):Rat)) i) 2:=by
 have o:ov c=1∨ov c=4:=by unfold ov;split <;> simp
 refine rlim_quo (pcs_quo c n i) ?_ ?_ ?_ (by decide)
 ·rw[b32_two];rcases o with o|o <;> rw[o] <;> omega
 ·rw[b32_two];rcases o with o|o <;> rw[o] <;> omega
 ·rcases o with o|o <;> rw[o] <;> omega
theorem at_lim2 {c n i k:Int} (h0: -12300000000≤n) (h1:n≤12300000000) (i0:0≤i) (i1:i≤1000) (k0:0≤k) (k1:k≤2097152):RLim (atR (pcs c (((n:Int):Rat)/((4096:Int):Rat)) i) (pcs c (((n:Int):Rat)/((4096:Int):Rat)) (i+1)) k 2097152) 2:=by
 have o:ov c=1∨ov c=4:=by unfold ov;split <;> simp
 refine rlim_quo (at_quo c n i k) ?_ ?_ ?_ (by decide)
 ·rw[b32_two];rcases o with o|o <;> rw[o] <;> omega
 ·rw[b32_two];rcases o with o|o <;> rw[o] <;> omega
 ·rcases o with o|o <;> rw[o] <;> omega
theorem day_lim2 {n k:Int} (h0: -12300000000≤n) (h1:n≤12300000000) (k0:0≤k) (k1:k≤2097152):RLim (atR ((n:Int):Rat) (((n+1:Int)):Rat) k 2097152) 2:=
 rlim_quo (day_quo n k) (by rw[b32_two];omega) (by decide) (by decide) (by decide)
theorem pieceV_bd (c:Int) (t:Rat):((pieceV c t:Nat):Int)≤33:=by
 by_cases h:0≤c∧c≤4
 ·have:=(piece_spec h.1 h.2 t).1
  have:=kM_bd c
  omega
 ·unfold pieceV;rw[dif_neg h];decide
theorem endA_lim {c:Int} {t:Rat} {k:Nat} (h:RLim t k):RLim (endA c t) (3*k+17):=by
 have b:=pieceV_bd c t
 exact(hlo_lim (p:=notI c (kI c t)) (pcs_lim (c:=c) h (i:=((pieceV c t:Nat):Int)) (by omega) (by omega)) (pcs_lim (c:=c) h (i:=((pieceV c t:Nat):Int)+1) (by omega) (by omega)) (n:=21) (by decide)).up _ (by omega)
theorem endB_lim {c:Int} {t:Rat} {k:Nat} (h:RLim t k):RLim (endB c t) (3*k+17):=by
 have b:=pieceV_bd c t
 exact(hhi_lim (p:=notI c (kI c t)) (pcs_lim (c:=c) h (i:=((pieceV c t:Nat):Int)) (by omega) (by omega)) (pcs_lim (c:=c) h (i:=((pieceV c t:Nat):Int)+1) (by omega) (by omega)) (n:=21) (by decide)).up _ (by omega)
theorem two21:(2:Int)^21=2097152:=by decide+kernel
theorem two10:(2:Int)^10=1024:=by decide+kernel
theorem notX_K {c:Int} (h0:0≤c) (h1:c≤4) (t:Rat):notX c (kX c t)=notI c (kI c t):=notX_is ⟨h0,h1⟩ t
theorem endA_at {c:Int} (h0:0≤c) (h1:c≤4) (t:Rat):endA c t=atR (pcs c t ((pieceV c t:Nat):Int)) (pcs c t (((pieceV c t:Nat):Int)+1)) (hlv (notX c (kX c t)) (pcs c t ((pieceV c t:Nat):Int)) (pcs c t (((pieceV c t:Nat):Int)+1)) 21) 2097152:=by
 rw[notX_K h0 h1,←two21];rfl
theorem endB_at {c:Int} (h0:0≤c) (h1:c≤4) (t:Rat):endB c t=atR (pcs c t ((pieceV c t:Nat):Int)) (pcs c t (((pieceV c t:Nat):Int)+1)) (hlv (notX c (kX c t)) (pcs c t ((pieceV c t:Nat):Int)) (pcs c t (((pieceV c t:Nat):Int)+1)) 21+1) 2097152:=by
 rw[notX_K h0 h1,←two21];rfl
theorem moonA_at (n:Int):hlo wax ((n:Int):Rat) (((n+1:Int)):Rat) 10=atR ((n:Int):Rat) (((n+1:Int)):Rat) (hlv wax ((n:Int):Rat) (((n+1:Int)):Rat) 10) 1024:=by rw[←two10];rfl
theorem moonB_at (n:Int):hhi wax ((n:Int):Rat) (((n+1:Int)):Rat) 10=atR ((n:Int):Rat) (((n+1:Int)):Rat) (hlv wax ((n:Int):Rat) (((n+1:Int)):Rat) 10+1) 1024:=by rw[←two10];rfl
theorem entA_at (n:Int):hlo (notI 0 (kI 0 ((n:Int):Rat))) ((n:Int):Rat) (((n+1:Int)):Rat) 21=atR ((n:Int):Rat) (((n+1:Int)):Rat) (hlv (notX 0 (kX 0 ((n:Int):Rat))) ((n:Int):Rat) (((n+1:Int)):Rat) 21) 2097152:=by
 rw[notX_K (by decide) (by decide),←two21];rfl
theorem entB_at (n:Int):hhi (notI 0 (kI 0 ((n:Int):Rat))) ((n:Int):Rat) (((n+1:Int)):Rat) 21=atR ((n:Int):Rat) (((n+1:Int)):Rat) (hlv (notX 0 (kX 0 ((n:Int):Rat))) ((n:Int):Rat) (((n+1:Int)):Rat) 21+1) 2097152:=by
 rw[notX_K (by decide) (by decide),←two21];rfl
theorem kX_endA {c:Int} (h0:0≤c) (h1:c≤4) (t:Rat):kX c (endA c t)=kX c t:=by rw[kX_is h0 h1,kX_is h0 h1];exact endA_f h0 h1 t
theorem kX_endB {c:Int} (h0:0≤c) (h1:c≤4) (t:Rat):kX c (endB c t)=(kX c t+1)%kP c:=by
 rw[kX_is h0 h1,kX_is h0 h1,show kP c=kN c from if_pos ⟨h0,h1⟩];exact endB_i h0 h1 t
theorem kP_bd {c:Int} (h0:0≤c) (h1:c≤4):12≤kP c∧kP c≤60:=by rw[show kP c=kN c from if_pos ⟨h0,h1⟩];exact kN_bd c
theorem end_near2 (c:Int) (t:Rat):endB c t-endA c t<((1:Int):Rat)/((1048576:Int):Rat):=by rw[show((1:Int):Rat)/((1048576:Int):Rat)=1/1048576 by decide+kernel];exact end_near c t
theorem ent_t {n:Int} (h:kX 0 ((n:Int):Rat)≠kX 0 (((n+1:Int)):Rat)):notI 0 (kI 0 ((n:Int):Rat)) (((n+1:Int)):Rat)=true:=notI_t.2 (fun e=>h e.symm)
theorem ent_f {n:Int} (h:¬kX 0 ((n:Int):Rat)≠kX 0 (((n+1:Int)):Rat)):notI 0 (kI 0 ((n:Int):Rat)) (((n+1:Int)):Rat)=false:=notI_f.2 (Decidable.not_not.1 h).symm
theorem ent_a (n:Int):prt (sunV (hlo (notI 0 (kI 0 ((n:Int):Rat))) ((n:Int):Rat) (((n+1:Int)):Rat) 21)) 12=kX 0 ((n:Int):Rat):=en_l n
theorem ent_b {n:Int} (h:kX 0 ((n:Int):Rat)≠kX 0 (((n+1:Int)):Rat)):prt (sunV (hhi (notI 0 (kI 0 ((n:Int):Rat))) ((n:Int):Rat) (((n+1:Int)):Rat) 21)) 12=(kX 0 ((n:Int):Rat)+1)%12:=en_r (fun e=>h e.symm)
theorem lastI_bd (d:Int):d-34≤lastV ((d:Int):Rat)∧lastV ((d:Int):Rat)≤d∧comes (lastV ((d:Int):Rat))=true:=by
 have b:=lastV_bd ((d:Int):Rat)
 rw[Rat.floor_intCast] at b
 have no:¬nowC ((d:Int):Rat)=true:=by rw[nowC_int];decide
 refine⟨b.1,b.2,?_⟩
 rw[lastV_no no]
 exact(lastD_spec _).2.2.1
def awp (q:Rat):Bool:=decide (0<qc q (((1:Int):Rat)/((3:Int):Rat)))
theorem qc_pos15 {a b:Rat}:0<qc a b↔b<a:=by
 rw[qc_def]
 split
 ·exact⟨fun h=>absurd h (by decide),fun h=>by grind⟩
 ·split
  ·exact⟨fun _=>by assumption,fun _=>by decide⟩
  ·exact⟨fun h=>absurd h (by decide),fun h=>by contradiction⟩
theorem awp_t {q:Rat}:awp q=true↔1/3<q:=by unfold awp;rw[decide_eq_true_iff,qc_pos15,show((1:Int):Rat)/((3:Int):Rat)=1/3 by decide+kernel]
theorem aw_k:hlv awp 0 ((1:Int):Rat) 21=699050:=by
 have a:=hlv_left (p:=awp) (lo:=0) ((1:Int):Rat) (eq_false_of_ne_true fun e=>by have:=awp_t.1 e;revert this;decide+kernel) 21
 have b:=hlv_right (p:=awp) 0 (hi:=((1:Int):Rat)) (awp_t.2 (by decide+kernel)) 21
 have b:=awp_t.1 b
 have a:¬1/3<hlo awp 0 ((1:Int):Rat) 21:=fun e=>by rw[awp_t.2 e] at a;cases a
 unfold hhi atR at b
 unfold hlo atR at a
 rw[two21,show((2097152:Int):Rat)=2097152 from rfl,show((1:Int):Rat)=1 from rfl] at a b
 rw[Rat.intCast_add,show((1:Int):Rat)=1 from rfl] at b
 generalize hlv awp 0 1 21=k at*
 have u:((3*k:Int):Rat)≤((2097152:Int):Rat):=by rw[Rat.intCast_mul,show((3:Int):Rat)=3 from rfl,show((2097152:Int):Rat)=2097152 from rfl];grind
 have v:((2097152:Int):Rat)<((3*k+3:Int):Rat):=by rw[Rat.intCast_add,Rat.intCast_mul,show((3:Int):Rat)=3 from rfl,show((2097152:Int):Rat)=2097152 from rfl];grind
 have:=Rat.intCast_le_intCast.1 u
 have:=Rat.intCast_lt_intCast.1 v
 omega
theorem aw_lo:hlo awp 0 ((1:Int):Rat) 21=((699050:Int):Rat)/((2097152:Int):Rat):=by
 unfold hlo
 rw[aw_k,two21]
 decide+kernel
theorem aw_hi:hhi awp 0 ((1:Int):Rat) 21=((699051:Int):Rat)/((2097152:Int):Rat):=by
 unfold hhi
 rw[aw_k,two21]
 decide+kernel
end Go.Proofs.YtplngpfpcheofaaGreatDoor
