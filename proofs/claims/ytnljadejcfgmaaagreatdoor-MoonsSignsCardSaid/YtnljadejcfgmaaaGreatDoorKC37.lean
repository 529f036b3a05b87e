import Derived.Test.YtnljadejcfgmaaaGreatDoorKC36
namespace Go.Proofs.YtnljadejcfgmaaaGreatDoor
open Go.RowKit
set_option maxRecDepth 100000
set_option linter.unusedVariables false
set_option maxHeartbeats 8000000
theorem full_qc (t:Rat):decide (0≤qc (phaseV t) ((180:Int):Rat))=full t:=by
 have h:=wax_qc t
 unfold wax at h
 cases e:full t with
 |true=>rw[e] at h;exact decide_eq_true (by have:=of_decide_eq_false h;omega)
 |false=>rw[e] at h;exact decide_eq_false (by have:=of_decide_eq_true h;omega)
theorem wax_f {t:Rat}:wax t=false↔full t=true:=by unfold wax;cases full t <;> simp
theorem wax_t {t:Rat}:wax t=true↔full t=false:=by unfold wax;cases full t <;> simp
def nmR (n:Int):Rat:=hhi wax ((n:Int):Rat) (((n+1:Int)):Rat) 10
def lastN (t:Rat):Int:=min (t.floor-1) ((t-phaseV t*(((10:Int):Rat)/((135:Int):Rat))).floor)
theorem lastN_bd {t:Rat} (no:¬nowC t=true):lastD t.floor≤lastN t∧lastN t≤t.floor-1∧t.floor-34≤lastD t.floor:=by
 have s:=lastD_spec t.floor
 have f:=last_from (t:=t) (f:=t.floor) (L:=lastD t.floor) rfl (by unfold nowC at no;rw[Bool.and_eq_true,Bool.not_eq_true'] at no;exact no) s.2.1 s.2.2.1 s.2.2.2
 unfold lastN
 omega
theorem lastX_bd (t:Rat):t.floor-30≤((t-phaseV t*(((10:Int):Rat)/((135:Int):Rat))).floor)∧((t-phaseV t*(((10:Int):Rat)/((135:Int):Rat))).floor)≤t.floor:=by
 have b:=phase_bd t
 have a:=fl_le t
 have c:=fl_lt t
 rw[show((10:Int):Rat)/((135:Int):Rat)=10/135 by decide+kernel]
 constructor
 ·exact Rat.le_floor_iff.2 (by rw[Rat.intCast_sub,show((30:Int):Rat)=30 from rfl];grind)
 ·have:(t-phaseV t*(10/135)).floor <t.floor+1:=Rat.floor_lt_iff.2 (by rw[Rat.intCast_add,Rat.intCast_one];grind)
  omega
theorem fl_quo {n d:Int} (hd:0<d):(((n:Int):Rat)/((d:Int):Rat)).floor =n/d:=by
 have c:0<((d:Int):Rat):=Rat.intCast_pos.2 hd
 have e:((n:Int):Rat)/((d:Int):Rat)*((d:Int):Rat)=((n:Int):Rat):=Rat.div_mul_cancel (by grind)
 have m0:=Int.mul_ediv_add_emod n d
 have m1:=Int.emod_nonneg n (b:=d) (by omega)
 have m2:=Int.emod_lt_of_pos n hd
 have a:n/d≤(((n:Int):Rat)/((d:Int):Rat)).floor :=by
  refine Rat.le_floor_iff.2 (Rat.not_lt.1 fun q=>?_)
  have q2:=Rat.mul_lt_mul_of_pos_right q c
  rw[e,←Rat.intCast_mul] at q2
  have:=Rat.intCast_lt_intCast.1 q2
  rw[Int.mul_comm] at this
  omega
 have b:(((n:Int):Rat)/((d:Int):Rat)).floor <n/d+1:=by
  refine Rat.floor_lt_iff.2 (Rat.not_le.1 fun q=>?_)
  have q2:=Rat.mul_le_mul_of_nonneg_right q (Rat.le_of_lt c)
  rw[e,←Rat.intCast_mul] at q2
  have:=Rat.intCast_le_intCast.1 q2
  rw[Int.add_mul,Int.one_mul,Int.mul_comm] at this
  omega
 omega
theorem lastI_bd (d:Int):d-34≤lastV ((d:Int):Rat)∧lastV ((d:Int):Rat)≤d∧comes (lastV ((d:Int):Rat))=true:=by
 have b:=lastV_bd ((d:Int):Rat)
 rw[Rat.floor_intCast] at b
 have no:¬nowC ((d:Int):Rat)=true:=by rw[nowC_int];decide
 refine⟨b.1,b.2,?_⟩
 rw[lastV_no no]
 exact(lastD_spec _).2.2.1
theorem now_comes {t:Rat} (h:nowC t=true):comes t.floor=true:=by
 unfold nowC at h
 rw[Bool.and_eq_true,Bool.not_eq_true'] at h
 have f0:=fl_le t
 have f1:=fl_lt t
 have e:((t.floor:Int):Rat)+(t-((t.floor:Int):Rat))=t:=by grind
 have i:=(full_iff ((t.floor:Int):Rat) (d:=t-((t.floor:Int):Rat)) (by grind) (by grind)).1 ⟨h.1,by rw[e];exact h.2⟩
 rw[e] at i
 refine(comes_iff _).2 ?_
 have s:=dturn_step t.floor
 have u:=turn_step t (d:=((t.floor:Int):Rat)+1-t) (by grind) (by grind)
 rw[show t+(((t.floor:Int):Rat)+1-t)=(((t.floor+1:Int)):Rat) by rw[day_next];grind] at u
 unfold dturn at*
 rcases u with u|u <;> omega
theorem lastV_comes (t:Rat):comes (lastV t)=true:=by
 by_cases h:nowC t=true
 ·rw[lastV_yes h];exact now_comes h
 ·rw[lastV_no h];exact(lastD_spec _).2.2.1
theorem nmR_bd (n:Int):((n:Int):Rat)<nmR n∧nmR n≤((n:Int):Rat)+1:=by
 have b:=hlv_bd wax ((n:Int):Rat) (((n+1:Int)):Rat) 10
 rw[show(2:Int)^10=1024 from rfl] at b
 unfold nmR hhi atR
 generalize hlv wax ((n:Int):Rat) (((n+1:Int)):Rat) 10=k at*
 have a:=Rat.intCast_le_intCast.2 (show 1≤k+1 by omega)
 have c:=Rat.intCast_le_intCast.2 (show k+1≤1024 by omega)
 rw[day_next,show((2^10:Int):Rat)=1024 by decide+kernel]
 rw[show((1:Int):Rat)=1 from rfl] at a
 rw[show((1024:Int):Rat)=1024 from rfl] at c
 constructor <;> grind
def smV (n:Int):Int:=kaV (nmR n)
theorem nmR_gap {n:Int} (h:comes n=true):nmR n+27≤nmR (nextD n)∧nmR (nextD n)≤nmR n+32:=by
 have s:=nextD_spec h
 have a:=nmR_bd n
 have b:=nmR_bd (nextD n)
 have l:=Rat.intCast_le_intCast.2 s.1
 have g:=Rat.intCast_le_intCast.2 s.2.1
 rw[Rat.intCast_add,show((28:Int):Rat)=28 from rfl] at l
 rw[Rat.intCast_add,show((31:Int):Rat)=31 from rfl] at g
 constructor <;> grind
theorem sm_next {n:Int} (h:comes n=true):smV n≤smV (nextD n)∧smV (nextD n)≤smV n+2:=by
 have g:=nmR_gap h
 exact ka_moon g.1 g.2
theorem sm_two {n:Int} (h:comes n=true):smV n<smV (nextD (nextD n)):=by
 have s:=nextD_spec h
 have t:=nextD_spec s.2.2.1
 have a:=nmR_bd n
 have b:=nmR_bd (nextD (nextD n))
 have l:=Rat.intCast_le_intCast.2 (show n+56≤nextD (nextD n) by omega)
 rw[Rat.intCast_add,show((56:Int):Rat)=56 from rfl] at l
 exact ka_moons (by grind)
theorem sm_after (n:Int):kaV (((n+1:Int)):Rat)=smV n∨kaV (((n+1:Int)):Rat)=smV n+1:=by
 have b:=nmR_bd n
 exact ka_day (by rw[day_next];exact b.2) (by rw[day_next];grind)
theorem sm_ahead (n:Int):smV n=kaV ((n:Int):Rat)∨smV n=kaV ((n:Int):Rat)+1:=by
 have b:=nmR_bd n
 exact ka_day (Rat.le_of_lt b.1) b.2
theorem ka_next (n:Int):kaV (((n+1:Int)):Rat)=kaV ((n:Int):Rat)∨kaV (((n+1:Int)):Rat)=kaV ((n:Int):Rat)+1:=ka_day (by rw[day_next];grind) (by rw[day_next];grind)
theorem ent_ka (n:Int):notI 0 (kI 0 ((n:Int):Rat)) (((n+1:Int)):Rat)=decide (kaV (((n+1:Int)):Rat)=kaV ((n:Int):Rat)+1):=by
 have e:=ka_next n
 have a:kI 0 ((n:Int):Rat)=kaV ((n:Int):Rat)%12:=ka_sign _
 have b:kI 0 (((n+1:Int)):Rat)=kaV (((n+1:Int)):Rat)%12:=ka_sign _
 unfold notI
 rw[a,b]
 exact decide_eq_decide.2 (by omega)
noncomputable def moD (d:Int):Nat→Int
 |0=>d
 |k+1=>nextD (moD d k)
theorem moD_comes {d:Int} (h:comes d=true):∀k,comes (moD d k)=true
 |0=>h
 |k+1=>(nextD_spec (moD_comes h k)).2.2.1
theorem moD_bd {d:Int} (h:comes d=true) (k:Nat):d+28*((k:Nat):Int)≤moD d k∧moD d k≤d+31*((k:Nat):Int):=by
 induction k with
 |zero=>show d+28*0≤d∧d≤d+31*0;omega
 |succ k ih=>
  have s:=nextD_spec (moD_comes h k)
  show d+28*(((k+1:Nat)):Int)≤nextD (moD d k)∧nextD (moD d k)≤d+31*(((k+1:Nat)):Int)
  omega
def moC (n m:Int):List Value:=[.int .i64 n,.int .i64 m,.int .i64 (smV n%12),.int .i64 (smV m%12)]
noncomputable def moR (d:Int):Nat→List Value
 |0=>[]
 |k+1=>moR d k++moC (moD d k) (moD d (k+1))
theorem moR_len (d:Int):∀k,(moR d k).length =4*k
 |0=>rfl
 |k+1=>by show(moR d k++moC _ _).length =_;rw[List.length_append,moR_len d k];rfl
theorem moR_at (d:Int) (more:List Value):∀ {k i:Nat},i<k→((moR d k++more).drop (4*i)).take 4=moC (moD d i) (moD d (i+1))
 |0,_,h=>absurd h (Nat.not_lt_zero _)
 |k+1,i,h=>by
  by_cases e:i=k
  ·subst e
   show(((moR d i++moC (moD d i) (moD d (i+1)))++more).drop (4*i)).take 4=_
   rw[List.append_assoc,←moR_len d i,List.drop_left];rfl
  ·show(((moR d k++moC (moD d k) (moD d (k+1)))++more).drop (4*i)).take 4=_
   rw[List.append_assoc]
   exact moR_at d _ (by omega)
theorem moR_cell (d:Int) (more:List Value) {k i j:Nat} (h:i<k) (hj:j<4):(moR d k++more)[4*i+j]?=(moC (moD d i) (moD d (i+1)))[j]?:=by
 rw[←moR_at d more h,List.getElem?_take,if_pos hj,List.getElem?_drop]
theorem moSign12_any (v1:Value) (qt:Rat) (k:Nat) (w:World) (hT:TabD w) (h1:Rq w v1 qt) (hl:RLim qt k) (hk:k≤100):Calls Tryz.prog 31 #[v1] w (ValPost w (.int .i64 (kaV qt%12))):=by
 rw[←ka_sign]
 exact oSign_any v1 qt k w hT h1 hl hk
theorem en48:(Tryz.f48.name == "runtime.NumGoroutine")=false∧Tryz.f48.body.isNone=false:=⟨by decide+kernel,by kernel_rfl⟩
theorem en34:(Tryz.f34.name == "runtime.NumGoroutine")=false∧Tryz.f34.body.isNone=false:=⟨by decide+kernel,by kernel_rfl⟩
theorem en45:(Tryz.f45.name == "runtime.NumGoroutine")=false∧Tryz.f45.body.isNone=false:=⟨by decide+kernel,by kernel_rfl⟩
theorem moSignOf_any (n:Int) (w:World) (hT:TabD w) (hn0: -100000000≤n) (hn1:n≤100000000):
 Calls Tryz.prog 48 #[.int .i64 n] w (ValPost w (.int .i64 (smV n%12))):=by
 have st:=St.start w
 refine E.enter (nt:=12) (L:=[(0,.int .i64 n)]) Tryz.func48 rfl rfl rfl (args_cons (i:=0) rfl args_nil) ?_
 intro a hF
 refine wp_seq ?_
 refine E.seq ?_
 refine E.opv hF (r_assign ev_c) rfl rfl rfl rfl fun a hF=>?_
 refine E.nil ?_
 refine wp_seq ?_
 refine E.seq ?_
 refine E.opv hF (r_move (hF.at 1 rfl)) rfl rfl rfl rfl fun a hF=>?_
 refine S.call2 st hF (rgc k46 (map1 (hF.at 0 rfl))) (skNew_any n _ (hT.below st.bel) (by omega) (by omega)) (fun _ _ h=>h) Rq.cl Rq.cl rfl rfl rfl rfl fun vv2 vv3 w1 a st hF=>?_
 obtain⟨b6,ad6,n6,c6,ae6,m6,d6,rfl⟩:=Rq.form (st.f 0 rfl)
 obtain⟨b7,ad7,n7,c7,ae7,m7,d7,rfl⟩:=Rq.form (st.f 1 rfl)
 refine E.opv hF (r_move (hF.at 0 rfl)) rfl rfl rfl rfl fun a hF=>?_
 refine E.opv hF (r_extract (v:= .agg #[.bool b6,.slice ad6 n6 c6,.slice ae6 m6 d6]) (hF.at 0 rfl) rfl) rfl rfl rfl rfl fun a hF=>?_
 refine E.opv hF (r_extract (v:= .agg #[.bool b7,.slice ad7 n7 c7,.slice ae7 m7 d7]) (hF.at 1 rfl) rfl) rfl rfl rfl rfl fun a hF=>?_
 refine S.alloc st hF ty_Rat rfl rfl fun g3 w8 a st hF=>?_
 refine S.alloc st hF ty_Rat rfl rfl fun g4 w9 a st hF=>?_
 refine S.sto st hF 1 rfl (hF.at 1 rfl) (hF.at 3 rfl) ty_Rat rfl rfl rfl rfl fun w10 a st hF=>?_
 refine S.sto st hF 0 rfl (hF.at 0 rfl) (hF.at 2 rfl) ty_Rat rfl rfl rfl rfl fun w11 a st hF=>?_
 refine E.nil ?_
 refine wp_seq ?_
 refine E.seq ?_
 refine E.opv hF (r_load (hF.at 0 rfl) (ld_all ty_Rat (st.bk 0 rfl) rfl)) rfl rfl rfl rfl fun a hF=>?_
 refine S.callx st hF (rgc k31 (map1 (hF.at 0 rfl))) (moSign12_any _ _ 14 _ (hT.below st.bel) (st.f 1 rfl) (hhi_lim (p:=wax) (i:=2) (j:=2) (lim64 (n:=n) (by omega) (by omega)) (dnext_lim (n:=n) (by omega) (by omega)) (by decide)) (by omega)) rfl rfl rfl rfl fun w12 a st hF=>?_
 refine E.opset (L':=[(2,.int .i64 (kaV (hhi wax ((n:Int):Rat) ((n+1:Int):Rat) 10)%12)),(11,.int .i64 (kaV (hhi wax ((n:Int):Rat) ((n+1:Int):Rat) 10)%12)),(10,.agg #[.bool b7,.slice ad7 n7 c7,.slice ae7 m7 d7]),(4,.pointer (some ⟨g4,0,none⟩)),(3,.pointer (some ⟨g3,0,none⟩)),(9,.agg #[.bool b7,.slice ad7 n7 c7,.slice ae7 m7 d7]),(8,.agg #[.bool b6,.slice ad6 n6 c6,.slice ae6 m6 d6]),(5,.tuple #[.agg #[.bool b6,.slice ad6 n6 c6,.slice ae6 m6 d6],.agg #[.bool b7,.slice ad7 n7 c7,.slice ae7 m7 d7]]),(7,.tuple #[.agg #[.bool b6,.slice ad6 n6 c6,.slice ae6 m6 d6],.agg #[.bool b7,.slice ad7 n7 c7,.slice ae7 m7 d7]]),(6,.int .i64 n),(0,.int .i64 n)]) hF (r_assign (hF.at 0 rfl)) rfl rfl rfl rfl fun a hF=>?_
 refine E.nil ?_
 refine wp_ret ?_
 have bel:=st.bel
 refine bodyPost_ret (res_tmp Tryz.results48 (hF.at 0 rfl)) hF.dfr ?_
 exact⟨rv_int rfl,bel⟩
theorem moOf_any (n:Int) (w:World) (hT:TabD w) (hn0: -99000000≤n) (hn1:n≤99000000) (hc:comes n=true):
 Calls Tryz.prog 44 #[.int .i64 n] w (ValPost w (.agg #[.int .i64 n,.int .i64 (nextD n),.int .i64 (smV n%12),.int .i64 (smV (nextD n)%12)])):=by
 have hns:=nextD_spec hc
 have st:=St.start w
 refine E.enter (nt:=13) (L:=[(0,.int .i64 n)]) Tryz.func44 rfl rfl rfl (args_cons (i:=0) rfl args_nil) ?_
 intro a hF
 refine wp_seq ?_
 refine E.seq ?_
 refine S.alloc st hF ty_MMO rfl rfl fun g2 w1 a st hF=>?_
 refine E.nil ?_
 refine wp_seq ?_
 refine E.seq ?_
 refine E.opv hF (r_move (hF.at 1 rfl)) rfl rfl rfl rfl fun a hF=>?_
 refine S.callx st hF (rgc k109 (map1 (hF.at 0 rfl))) (skNext_any n _ (hT.below st.bel) (by omega) (by omega) hc) rfl rfl rfl rfl fun w2 a st hF=>?_
 refine E.opv hF (r_assign (hF.at 0 rfl)) rfl rfl rfl rfl fun a hF=>?_
 refine E.nil ?_
 refine wp_seq ?_
 refine E.seq ?_
 refine E.opv hF (r_move (hF.at 4 rfl)) rfl rfl rfl rfl fun a hF=>?_
 refine E.opv hF (r_move (hF.at 1 rfl)) rfl rfl rfl rfl fun a hF=>?_
 refine E.opv hF (r_move (hF.at 6 rfl)) rfl rfl rfl rfl fun a hF=>?_
 refine S.callx st hF (rgc k48 (map1 (hF.at 0 rfl))) (moSignOf_any n _ (hT.below st.bel) (by omega) (by omega)) rfl rfl rfl rfl fun w3 a st hF=>?_
 refine E.opv hF (r_move (hF.at 4 rfl)) rfl rfl rfl rfl fun a hF=>?_
 refine S.callx st hF (rgc k48 (map1 (hF.at 0 rfl))) (moSignOf_any (nextD n) _ (hT.below st.bel) (by omega) (by omega)) rfl rfl rfl rfl fun w4 a st hF=>?_
 refine E.opv hF (r_build (pair4 (hF.at 5 rfl) (hF.at 4 rfl) (hF.at 2 rfl) (hF.at 0 rfl)) (bd_MMO_0123 _ _ _ _ _)) rfl rfl rfl rfl fun a hF=>?_
 refine S.stoI st hF 0 rfl (hF.at 10 rfl) (hF.at 0 rfl) ty_MMO rfl rfl rfl fun w5 a st hF=>?_
 refine E.nil ?_
 refine wp_ret ?_
 refine S.ret Tryz.results44 st hF (hF.at 10 rfl) 0 rfl ty_MMO rfl hF.dfr ?_
 have bel:=st.bel
 exact⟨rfl,bel⟩
theorem moAt_any (v1:Value) (qt:Rat) (k:Nat) (w:World) (hT:TabD w) (h1:Rq w v1 qt) (hl:RLim qt k) (hk:k≤100) (hf0: -90000000≤Rat.floor qt) (hf1:Rat.floor qt≤90000000):
 Calls Tryz.prog 34 #[v1] w (ValPost w (.agg #[.int .i64 (lastV qt),.int .i64 (nextD (lastV qt)),.int .i64 (smV (lastV qt)%12),.int .i64 (smV (nextD (lastV qt))%12)])):=by
 have hlv:=lastV_bd qt
 have st:=St.start w
 refine E.enter (nt:=6) (L:=[(0,v1)]) Tryz.func34 rfl rfl rfl (args_cons (i:=0) rfl args_nil) ?_
 intro a hF
 refine wp_seq ?_
 refine E.seq ?_
 obtain⟨b2,ad2,n2,c2,ae2,m2,d2,rfl⟩:=Rq.form h1
 refine S.box st hF (hF.at 0 rfl) rfl rfl fun g1 w1 a st hF=>?_
 refine S.alloc st hF ty_MMO rfl rfl fun g2 w3 a st hF=>?_
 refine E.nil ?_
 refine wp_seq ?_
 refine E.seq ?_
 refine E.opv hF (r_load (hF.at 1 rfl) (ld_all ty_Rat (st.bk 1 rfl) rfl)) rfl rfl rfl rfl fun a hF=>?_
 refine S.callx st hF (rgc k99 (map1 (hF.at 0 rfl))) (skLast_any _ (qt) k _ (hT.below st.bel) (h1.below st.bel) hl (by omega) (by omega) (by omega)) rfl rfl rfl rfl fun w4 a st hF=>?_
 refine S.callx st hF (rgc k44 (map1 (hF.at 0 rfl))) (moOf_any (lastV (qt)) _ (hT.below st.bel) (by omega) (by omega) (lastV_comes qt)) rfl rfl rfl rfl fun w5 a st hF=>?_
 refine S.stoI st hF 0 rfl (hF.at 3 rfl) (hF.at 0 rfl) ty_MMO rfl rfl rfl fun w6 a st hF=>?_
 refine E.nil ?_
 refine wp_ret ?_
 refine S.ret Tryz.results34 st hF (hF.at 3 rfl) 0 rfl ty_MMO rfl hF.dfr ?_
 have bel:=st.bel
 exact⟨rfl,bel⟩
theorem moAfter_any (z0 z1 z2 z3:Int) (w:World) (hT:TabD w) (hn0: -99000000≤z1) (hn1:z1≤99000000) (hc:comes z1=true):
 Calls Tryz.prog 45 #[.agg #[.int .i64 z0,.int .i64 z1,.int .i64 z2,.int .i64 z3]] w (ValPost w (.agg #[.int .i64 z1,.int .i64 (nextD z1),.int .i64 (smV z1%12),.int .i64 (smV (nextD z1)%12)])):=by
 have st:=St.start w
 refine E.enter (nt:=6) (L:=[(0,.agg #[.int .i64 z0,.int .i64 z1,.int .i64 z2,.int .i64 z3])]) Tryz.func45 rfl rfl rfl (args_cons (i:=0) rfl args_nil) ?_
 intro a hF
 refine wp_seq ?_
 refine E.seq ?_
 refine S.box st hF (hF.at 0 rfl) rfl rfl fun g1 w1 a st hF=>?_
 refine S.alloc st hF ty_MMO rfl rfl fun g2 w2 a st hF=>?_
 refine E.nil ?_
 refine wp_seq ?_
 refine E.seq ?_
 refine E.opv hF (r_field (hF.at 1 rfl) (fa_MMO_1 (p:=1) rfl)) rfl rfl rfl rfl fun a hF=>?_
 refine E.opv hF (r_load (hF.at 0 rfl) (ldb_i64 (v:= .int .i64 z1) (st.bk 1 rfl) rfl)) rfl rfl rfl rfl fun a hF=>?_
 refine S.callx st hF (rgc k44 (map1 (hF.at 0 rfl))) (moOf_any z1 _ (hT.below st.bel) (by omega) (by omega) hc) rfl rfl rfl rfl fun w3 a st hF=>?_
 refine S.stoI st hF 0 rfl (hF.at 3 rfl) (hF.at 0 rfl) ty_MMO rfl rfl rfl fun w4 a st hF=>?_
 refine E.nil ?_
 refine wp_ret ?_
 refine S.ret Tryz.results45 st hF (hF.at 3 rfl) 0 rfl ty_MMO rfl hF.dfr ?_
 have bel:=st.bel
 exact⟨rfl,bel⟩
end Go.Proofs.YtnljadejcfgmaaaGreatDoor
