import Derived.Test.YtnljadejcfgmaaaGreatDoorKC18
namespace Go.Proofs.YtnljadejcfgmaaaGreatDoor
open Go.RowKit
set_option maxRecDepth 100000
set_option linter.unusedVariables false
set_option maxHeartbeats 8000000
section
section
theorem fl_eq (q:Rat):Int.fdiv q.num ((q.den:Nat):Int)=q.floor:=by
 rw[Rat.floor_def,Int.fdiv_eq_ediv_of_nonneg _ (by omega)]
theorem fl_le (q:Rat):(q.floor:Rat)≤q:=Rat.floor_le q
theorem fl_lt (q:Rat):q<(q.floor:Rat)+1:=by
 have:=Rat.lt_floor_add_one q
 rw[Rat.intCast_add] at this;exact this
def rmod (x m:Rat):Rat:=if m≤0 then 0 else x-m*((x/m).floor :Rat)
def rinto (x a b:Rat):Rat:=if b-a≤0 then 0 else a+rmod (x-a) (b-a)
theorem mul_div_r {x m:Rat} (h:0<m):m*(x/m)=x:=by
 have:m≠0:=by grind
 rw[Rat.mul_comm];exact Rat.div_mul_cancel this
theorem rmod_low {x m:Rat} (h:0<m):0≤rmod x m:=by
 unfold rmod
 rw[if_neg (by grind)]
 have h1:=Rat.mul_le_mul_of_nonneg_left (c:=m) (fl_le (x/m)) (by grind)
 rw[mul_div_r h] at h1
 grind
theorem rmod_high {x m:Rat} (h:0<m):rmod x m<m:=by
 unfold rmod
 rw[if_neg (by grind)]
 have h1:=(Rat.mul_lt_mul_left h).2 (fl_lt (x/m))
 rw[mul_div_r h] at h1
 grind
theorem rmod_more {x m:Rat} (n:Int) (h:0<m):rmod (x+m*(n:Rat)) m=rmod x m:=by
 unfold rmod
 rw[if_neg (by grind),if_neg (by grind)]
 have e:(x+m*(n:Rat))/m=x/m+(n:Rat):=by
  have:m≠0:=by grind
  grind
 rw[e,Rat.floor_add_intCast,Rat.intCast_add]
 grind
theorem rinto_id {x a b:Rat} (h1:a≤x) (h2:x<b):rinto x a b=x:=by
 unfold rinto
 rw[if_neg (by grind)]
 unfold rmod
 rw[if_neg (by grind)]
 have e:((x-a)/(b-a)).floor =0:=by
  have hp:0<b-a:=by grind
  have l1:(0:Int)≤((x-a)/(b-a)).floor :=Rat.le_floor_iff.2 (by
   rw[Rat.intCast_zero];exact Rat.not_lt.1 fun hn=>by rw[Rat.div_lt_iff hp] at hn;grind)
  have l2:((x-a)/(b-a)).floor <1:=Rat.floor_lt_iff.2 (by
   rw[Rat.intCast_one,Rat.div_lt_iff hp];grind)
  omega
 rw[e,Rat.intCast_zero]
 grind
theorem of_one (z:Int):(z:Rat)/((1:Int):Rat)=(z:Rat):=by
 rw[Rat.intCast_one];grind
theorem sz_le0 {q:Rat}:sz q.num≤0↔q≤0:=by
 rw[sz_def]
 split
 ·constructor <;> intro <;> grind
 ·split
  ·constructor <;> intro <;> grind
  ·constructor <;> intro <;> grind
theorem rmod_no {x m:Rat} (h:sz m.num≤0):(0:Rat)=rmod x m:=by
 unfold rmod;rw[if_pos (sz_le0.1 h)]
theorem rmod_yes {x m:Rat} (h:¬sz m.num≤0):x-m*(((x/m).floor :Int):Rat)=rmod x m:=by
 unfold rmod;rw[if_neg (fun e=>h (sz_le0.2 e))]
theorem fl_lim {q:Rat} {k:Nat} (h:RLim q k):Lim (Rat.floor q).natAbs (k+1):=by
 rw[←fl_eq];exact limz_fdiv _ h.1
theorem frac_lim {q:Rat} {k:Nat} (h:RLim q k):RLim (q-((Rat.floor q:Int):Rat)) (k+k+3):=(rlim_sub h (rlim_int (fl_lim h) (by omega))).up _ (by omega)
theorem rmod_lim {q m:Rat} {k j:Nat} (h:RLim q k) (hm:RLim m j):RLim (rmod q m) (k+k+j+j+3):=by
 unfold rmod
 split
 ·exact rlim_zero (by omega)
 ·exact(rlim_sub h (rlim_mul hm (rlim_int (fl_lim (rlim_div h hm)) (by omega)))).up _ (by omega)
def fit64 (z:Int):Bool:=decide (-9223372036854775808≤z∧z≤9223372036854775807)
def sm64 (z:Int):Int:=if fit64 z then z else 0
theorem fit64_t {z:Int} (h0: -9223372036854775808≤z) (h1:z≤9223372036854775807):fit64 z=true:=decide_eq_true ⟨h0,h1⟩
theorem sm64_t {z:Int} (h0: -9223372036854775808≤z) (h1:z≤9223372036854775807):sm64 z=z:=by unfold sm64;rw[fit64_t h0 h1];rfl
theorem Wc.ofnatM {w:World} {s:Value} {N:Nat} (h:Dg w .u32 B32 s N):Wc w (.agg #[.bool false,s]) ((N:Nat):Int):=by
 refine⟨s,?_,by simpa using h⟩
 rw[decide_eq_false (by omega)]
theorem Rq.castM {w:World} {v:Value} {p q:Rat} (h:Rq w v p) (e:p=q):Rq w v q:=e▸h
end
section
theorem small64 (v:Value) (z:Int) (w:World) (h:Wz w v z):Calls Tryz.prog 79 #[v] w (ValPost w (.tuple #[.int .i64 (sm64 z),.bool (fit64 z)])):=by
 by_cases k: -9223372036854775808≤z∧z≤9223372036854775807
 ·have e1:fit64 z=true:=decide_eq_true k
  have e2:sm64 z=z:=by unfold sm64;rw[e1];rfl
  rw[e1,e2]
  exact whSmall_yes v z w h k.1 k.2
 ·have e1:fit64 z=false:=decide_eq_false k
  have e2:sm64 z=0:=by unfold sm64;rw[e1];rfl
  rw[e1,e2]
  exact whSmall_no v z w h (by omega)
theorem cbel_any (v1:Value) (qx:Rat) (w:World) (h1:Rq w v1 qx):
 Calls Tryz.prog 163 #[v1] w (WcPost w ((qx.den:Nat):Int)):=by
 have st:=St.start w
 refine E.enter (nt:=6) (L:=[(0,v1)]) Tryz.func163 rfl rfl rfl (args_cons (i:=0) rfl args_nil) ?_
 intro a hF
 refine wp_seq ?_
 refine E.seq ?_
 obtain⟨b2,ad2,n2,c2,ae2,m2,d2,rfl⟩:=Rq.form h1
 refine S.box st hF (hF.at 0 rfl) rfl rfl fun g1 w1 a st hF=>?_
 refine S.alloc st hF ty_Int rfl rfl fun g2 w3 a st hF=>?_
 refine E.nil ?_
 refine wp_seq ?_
 refine E.seq ?_
 refine E.opv hF (r_load (hF.at 1 rfl) (ld_all ty_Rat (st.bk 1 rfl) rfl)) rfl rfl rfl rfl fun a hF=>?_
 refine S.call st hF (r_call Tryz.func66 en66.1 en66.2 (map1 (hF.at 0 rfl))) (rden_any _ (qx) _ (h1.below st.bel)) (fun _ _ h=>h) Dg.cl rfl rfl rfl rfl fun vv5 w4 a st hF=>?_
 obtain⟨ad7,n7,c7,rfl⟩:=Dg.form (st.f 0 rfl)
 refine E.opv hF (r_build (pair1 (hF.at 0 rfl)) (bd_Int_1 _ _ _ _)) rfl rfl rfl rfl fun a hF=>?_
 refine S.sto st hF 0 rfl (hF.at 3 rfl) (hF.at 0 rfl) ty_Int rfl rfl rfl rfl fun w8 a st hF=>?_
 refine E.nil ?_
 refine wp_ret ?_
 refine S.ret Tryz.results163 st hF (hF.at 3 rfl) 0 rfl ty_Int rfl hF.dfr ?_
 have bel:=st.bel
 exact⟨_,rfl,Wc.ofnatM (st.f 0 rfl),bel⟩
theorem cFloor_any (v1:Value) (qx:Rat) (k:Nat) (w:World) (h1:Rq w v1 qx) (hl:RLim qx k) (hk:k≤10000):
 Calls Tryz.prog 117 #[v1] w (WcPost w (Rat.floor qx)):=by
 have st:=St.start w
 refine E.enter (nt:=14) (L:=[(0,v1)]) Tryz.func117 rfl rfl rfl (args_cons (i:=0) rfl args_nil) ?_
 intro a hF
 refine wp_seq ?_
 refine E.seq ?_
 obtain⟨b2,ad2,n2,c2,ae2,m2,d2,rfl⟩:=Rq.form h1
 refine S.box st hF (hF.at 0 rfl) rfl rfl fun g1 w1 a st hF=>?_
 refine S.alloc st hF ty_Int rfl rfl fun g2 w3 a st hF=>?_
 refine E.nil ?_
 refine wp_seq ?_
 refine E.drawn2 11 mixed hF [some 6,some 7,some 8,some 9,some 10,some 5,some 11,some 12,some 3,some 4,none] [(fun _ v=>v= .agg #[.bool b2,.slice ad2 n2 c2,.slice ae2 m2 d2]),(fun w v=>Wc w v (Rat.num (qx))),(fun _ v=>v= .agg #[.bool b2,.slice ad2 n2 c2,.slice ae2 m2 d2]),(fun w v=>Wc w v (((Rat.den (qx):Nat):Int))),(fun w v=>∃q r,v= .tuple #[q,r]∧Wc w q (Int.fdiv (Rat.num (qx)) (((Rat.den (qx):Nat):Int)))∧Wc w r (fr (Rat.num (qx)) (((Rat.den (qx):Nat):Int)))),(fun w v=>∃q r,v= .tuple #[q,r]∧Wc w q (Int.fdiv (Rat.num (qx)) (((Rat.den (qx):Nat):Int)))∧Wc w r (fr (Rat.num (qx)) (((Rat.den (qx):Nat):Int)))),(fun w v=>Wc w v (Int.fdiv (Rat.num (qx)) (((Rat.den (qx):Nat):Int)))),(fun w v=>Wc w v (fr (Rat.num (qx)) (((Rat.den (qx):Nat):Int)))),(fun _ _=>True),(fun _ _=>True),(fun _ _=>True)] [8,9] [⟨10,8,6⟩] [[],[],[],[],[],[],[],[],[.bool false,.slice none 0 0],[.bool false,.slice none 0 0],[]] (by decide+kernel) (by decide+kernel) rfl rfl rfl (by decide+kernel) (by decide+kernel) ⟨(Mk.eq _),(fun _ _ _ h kp=>h.keep kp),(Mk.eq _),(fun _ _ _ h kp=>h.keep kp),(fun _ _ _ ⟨q,r,e,h1,h2⟩ kp=>⟨q,r,e,h1.keep kp,h2.keep kp⟩),(fun _ _ _ ⟨q,r,e,h1,h2⟩ kp=>⟨q,r,e,h1.keep kp,h2.keep kp⟩),(fun _ _ _ h kp=>h.keep kp),(fun _ _ _ h kp=>h.keep kp),Mk.any,Mk.any,Mk.any,trivial⟩ ⟨?_,?_,?_,?_,?_,?_,?_,?_,?_,?_,?_,trivial⟩ ?_
 ·refine step2_val rfl ?_
  intro a' w' hF' hb hd
  exact dw0 (r_load (hF'.at 1 rfl) (ld_all ty_Rat ((st.bk 1 rfl).below hb) rfl)) rfl rfl rfl
 ·refine step2_val rfl ?_
  intro a' w' hF' hb hd
  have e6:=sHe2 hd 0 6 rfl rfl rfl rfl rfl
  exact dk0 (r_call Tryz.func65 en65.1 en65.2 (map1 e6)) (rnum_any _ (qx) _ (h1.below (below_to st.bel hb))) rfl rfl
 ·refine step2_val rfl ?_
  intro a' w' hF' hb hd
  exact dw0 (r_load (hF'.at 1 rfl) (ld_all ty_Rat ((st.bk 1 rfl).below hb) rfl)) rfl rfl rfl
 ·refine step2_val rfl ?_
  intro a' w' hF' hb hd
  have e8:=sHe2 hd 0 8 rfl rfl rfl rfl rfl
  exact dk0 (r_call Tryz.func163 en163.1 en163.2 (map1 e8)) (cbel_any _ (qx) _ (h1.below (below_to st.bel hb))) rfl rfl
 ·refine step2_val rfl ?_
  intro a' w' hF' hb hd
  obtain⟨v7_0,e7,h7_1⟩:=sH2 hd 0 7 rfl rfl rfl rfl rfl
  obtain⟨v9_0,e9,h9_1⟩:=sH2 hd 1 9 rfl rfl rfl rfl rfl
  refine if_does (wanted_free rfl) (Does.calls (r_call Tryz.func165 en165.1 en165.2 (map2 e7 e9)) (whDivMod_any _ _ _ _ _ (Wc.wz h7_1) (Wc.wz h9_1) k (hl.1) (by omega)) ?_)
  rintro e w'' ⟨v1',v2',rfl,h1',h2',bb⟩
  exact⟨_,rfl,fun _=>⟨v1',v2',rfl,h1',h2'⟩,bb,(fun h=>absurd h (by decide))⟩
 ·refine step2_val rfl ?_
  intro a' w' hF' hb hd
  obtain⟨v10_0,v10_1,e10,h10_2,h10_3⟩:(fun(w:World) (v:Value)=>∃q r,v= .tuple #[q,r]∧Wc w q (Int.fdiv (Rat.num (qx)) (((Rat.den (qx):Nat):Int)))∧Wc w r (fr (Rat.num (qx)) (((Rat.den (qx):Nat):Int)))) w' (a'.tmps.getD 10 undef):=hd _ 10 (Array.mem_of_getElem? (i:=0) rfl) rfl rfl rfl
  exact dw0 (r_move e10) ⟨_,_,rfl,h10_2,h10_3⟩ rfl rfl
 ·refine step2_val rfl ?_
  intro a' w' hF' hb hd
  obtain⟨v5,e5,h5⟩:=sH2 hd 0 5 rfl rfl rfl rfl rfl
  obtain⟨v5a,v5b,rfl,h5a,h5b⟩:=h5
  exact dw0 (r_extract (v:=v5a) e5 rfl) h5a rfl rfl
 ·refine step2_val rfl ?_
  intro a' w' hF' hb hd
  obtain⟨v5,e5,h5⟩:=sH2 hd 0 5 rfl rfl rfl rfl rfl
  obtain⟨v5a,v5b,rfl,h5a,h5b⟩:=h5
  exact dw0 (r_extract (v:=v5b) e5 rfl) h5b rfl rfl
 ·refine step2_val rfl ?_
  intro a' w' hF' hb hd
  obtain⟨g,w2,ge,hr,bb,on⟩:=own_alloc (P:=Tryz.prog) (w:=w') (cs:=[.bool false,.slice none 0 0]) 31 ze_Int rfl (niB (niS ni0))
  subst ge
  exact if_does (wanted_free rfl) (Does.vals (r_alloc hr) ⟨(fun h=>absurd h (by decide)),bb,fun _=>⟨rfl,on⟩⟩)
 ·refine step2_val rfl ?_
  intro a' w' hF' hb hd
  obtain⟨g,w2,ge,hr,bb,on⟩:=own_alloc (P:=Tryz.prog) (w:=w') (cs:=[.bool false,.slice none 0 0]) 31 ze_Int rfl (niB (niS ni0))
  subst ge
  exact if_does (wanted_free rfl) (Does.vals (r_alloc hr) ⟨(fun h=>absurd h (by decide)),bb,fun _=>⟨rfl,on⟩⟩)
 ·exact step2_sto ⟨⟨10,8,6⟩,by simp,rfl⟩ (b:=8) (v:=6) rfl rfl rfl rfl rfl rfl sz_Int rfl (by decide) (by decide) (fun _ _ h=>cellsBS (Wc.form h))
 intro a w4 hF bb hall hblk hne
 have s0:=st
 replace st:=st.to bb
 obtain⟨vv5,e11,hh6⟩:=sS2 hall 6 11 rfl rfl rfl
 replace st:=st.add hh6 (Wc.cl _)
 clear hh6
 obtain⟨ad7,n7,c7,rfl,_⟩:=Wc.shape (st.f 0 rfl)
 obtain⟨vv8,e12,hh9⟩:=sS2 hall 7 12 rfl rfl rfl
 replace st:=st.add hh9 (Wc.cl _)
 clear hh9
 obtain⟨ad10,n10,c10,rfl,_⟩:=Wc.shape (st.f 0 rfl)
 obtain⟨g3,cs3,e3,ge3,o3,hc3⟩:=hblk 8 3 (by decide) rfl
 have hc3:=(hc3.2 ⟨10,8,6⟩ (by simp) rfl).2 rfl 11 rfl
 rw[e11] at hc3
 obtain rfl:cs3=[.bool (decide (Int.fdiv (Rat.num (qx)) (((Rat.den (qx):Nat):Int))<0)),.slice ad7 n7 c7]:=by have hx:=congrArg Array.toList hc3;exact hx.symm
 clear hc3
 replace st:=st.push o3.blk (Nat.le_trans s0.bel.size ge3) (s0.ne ge3)
 clear o3
 obtain⟨g4,cs4,e4,ge4,o4,hc4⟩:=hblk 9 4 (by decide) rfl
 obtain rfl:cs4=[.bool false,.slice none 0 0]:=hc4.1 (notBlk_spec rfl)
 clear hc4
 replace st:=st.push o4.blk (Nat.le_trans s0.bel.size ge4) (ne_cons (fun(e:g3=g4)=>hne 8 9 3 4 (by decide) (by decide) (by decide) rfl rfl (by rw[e3,e4,e])) (s0.ne ge4))
 clear o4
 clear hall hblk hne bb s0
 have hf11:=Wc.abs (st.f 1 rfl)
 replace st:=st.add hf11 (Dg.cl _)
 clear hf11
 clear e11
 replace hF:=hF.add e12
 clear e12
 replace hF:=hF.add e3
 clear e3
 replace hF:=hF.add e4
 clear e4
 refine S.sto st hF 0 rfl (hF.at 0 rfl) (hF.at 2 rfl) ty_Int rfl rfl rfl rfl fun w12 a st hF=>?_
 have hf13:=Wc.abs (st.f 1 rfl)
 replace st:=st.add hf13 (Dg.cl _)
 clear hf13
 refine E.nil ?_
 refine wp_seq ?_
 refine E.seq ?_
 refine E.opv hF (r_load (hF.at 1 rfl) (ld_all ty_Int (st.bk 1 rfl) rfl)) rfl rfl rfl rfl fun a hF=>?_
 refine S.sto st hF 2 rfl (hF.at 4 rfl) (hF.at 0 rfl) ty_Int rfl rfl rfl rfl fun w14 a st hF=>?_
 refine E.nil ?_
 refine wp_ret ?_
 refine S.ret Tryz.results117 st hF (hF.at 4 rfl) 2 rfl ty_Int rfl hF.dfr ?_
 have bel:=st.bel
 exact⟨_,rfl,Wc.cast (st.f 3 rfl) (fl_eq qx),bel⟩
theorem cDays_any (v1:Value) (qx:Rat) (k:Nat) (w:World) (h1:Rq w v1 qx) (hl:RLim qx k) (hk:k≤10000):
 Calls Tryz.prog 89 #[v1] w (ValPost w (.tuple #[.int .i64 (sm64 (Rat.floor qx)),.bool (fit64 (Rat.floor qx))])):=by
 have st:=St.start w
 refine E.enter (nt:=9) (L:=[(0,v1)]) Tryz.func89 rfl rfl rfl (args_cons (i:=0) rfl args_nil) ?_
 intro a hF
 refine wp_seq ?_
 refine E.seq ?_
 obtain⟨b2,ad2,n2,c2,ae2,m2,d2,rfl⟩:=Rq.form h1
 refine S.box st hF (hF.at 0 rfl) rfl rfl fun g1 w1 a st hF=>?_
 refine E.opv hF (r_assign ev_c) rfl rfl rfl rfl fun a hF=>?_
 refine E.opv hF (r_assign ev_c) rfl rfl rfl rfl fun a hF=>?_
 refine E.nil ?_
 refine wp_seq ?_
 refine E.seq ?_
 refine E.opv hF (r_load (hF.at 2 rfl) (ld_all ty_Rat (st.bk 0 rfl) rfl)) rfl rfl rfl rfl fun a hF=>?_
 refine S.call st hF (r_call Tryz.func117 en117.1 en117.2 (map1 (hF.at 0 rfl))) (cFloor_any _ (qx) k _ (h1.below st.bel) hl (by omega)) (fun _ _ h=>h) Wc.cl rfl rfl rfl rfl fun vv4 w3 a st hF=>?_
 obtain⟨ad6,n6,c6,rfl,_⟩:=Wc.shape (st.f 0 rfl)
 refine S.callx st hF (r_call Tryz.func79 en79.1 en79.2 (map1 (hF.at 0 rfl))) (small64 _ (Rat.floor (qx)) _ (Wc.wz (st.f 0 rfl))) rfl rfl rfl rfl fun w7 a st hF=>?_
 refine E.opv hF (r_extract (v:= .int .i64 (sm64 (Rat.floor (qx)))) (hF.at 0 rfl) rfl) rfl rfl rfl rfl fun a hF=>?_
 refine E.opv hF (r_extract (v:= .bool (fit64 (Rat.floor (qx)))) (hF.at 1 rfl) rfl) rfl rfl rfl rfl fun a hF=>?_
 refine E.opset (L':=[(2,.int .i64 (sm64 (Rat.floor (qx)))),(8,.bool (fit64 (Rat.floor (qx)))),(7,.int .i64 (sm64 (Rat.floor (qx)))),(6,.tuple #[.int .i64 (sm64 (Rat.floor (qx))),.bool (fit64 (Rat.floor (qx)))]),(5,.agg #[.bool (decide (Rat.floor (qx)<0)),.slice ad6 n6 c6]),(4,.agg #[.bool b2,.slice ad2 n2 c2,.slice ae2 m2 d2]),(3,.bool false),(1,.pointer (some ⟨g1,0,none⟩)),(0,.agg #[.bool b2,.slice ad2 n2 c2,.slice ae2 m2 d2])]) hF (r_assign (hF.at 1 rfl)) rfl rfl rfl rfl fun a hF=>?_
 refine E.opset (L':=[(3,.bool (fit64 (Rat.floor (qx)))),(2,.int .i64 (sm64 (Rat.floor (qx)))),(8,.bool (fit64 (Rat.floor (qx)))),(7,.int .i64 (sm64 (Rat.floor (qx)))),(6,.tuple #[.int .i64 (sm64 (Rat.floor (qx))),.bool (fit64 (Rat.floor (qx)))]),(5,.agg #[.bool (decide (Rat.floor (qx)<0)),.slice ad6 n6 c6]),(4,.agg #[.bool b2,.slice ad2 n2 c2,.slice ae2 m2 d2]),(1,.pointer (some ⟨g1,0,none⟩)),(0,.agg #[.bool b2,.slice ad2 n2 c2,.slice ae2 m2 d2])]) hF (r_assign (hF.at 1 rfl)) rfl rfl rfl rfl fun a hF=>?_
 refine E.nil ?_
 refine wp_ret ?_
 have bel:=st.bel
 refine bodyPost_ret (res_tmp2 Tryz.results89 (hF.at 1 rfl) (hF.at 0 rfl)) hF.dfr ?_
 exact⟨rfl,bel⟩
theorem cOf_any (v1:Value) (z:Int) (w:World) (h1:Wz w v1 z):
 Calls Tryz.prog 116 #[v1] w (RqPost w (z:Rat)):=by
 have st:=St.start w
 refine E.enter (nt:=6) (L:=[(0,v1)]) Tryz.func116 rfl rfl rfl (args_cons (i:=0) rfl args_nil) ?_
 intro a hF
 refine wp_seq ?_
 refine E.seq ?_
 obtain⟨b2,ad2,n2,c2,rfl⟩:=Wz.form h1
 refine S.box st hF (hF.at 0 rfl) rfl rfl fun g1 w1 a st hF=>?_
 have hf3:=Wz.abso h1
 refine S.alloc st hF ty_Rat rfl rfl fun g2 w4 a st hF=>?_
 refine E.nil ?_
 refine wp_seq ?_
 refine E.drawn 3 mixed hF [3,4,5] [(fun _ v=>v= .agg #[.bool b2,.slice ad2 n2 c2]),(fun w v=>Wc w v (1)),(fun w v=>Rq w v ((z:Rat)/(1:Rat)))] [] (by decide+kernel) (by decide+kernel) rfl rfl rfl ⟨(Mb.eq _),(fun _ _ _ h hb=>h.below hb),(fun _ _ _ h hb=>h.below hb),trivial⟩ trivial ⟨?_,?_,?_,trivial⟩ ?_
 ·intro a' w' hF' hb hd
  exact dv0 (r_load (hF'.at 1 rfl) (ld_all ty_Int ((st.bk 1 rfl).below hb) rfl)) rfl rfl rfl
 ·intro a' w' hF' hb hd
  exact dc0 (r_call Tryz.func101 en101.1 en101.2 (map1 ev_c)) (whOf_any 1 _ (by decide) (by decide)) rfl rfl
 ·intro a' w' hF' hb hd
  have e3:=sHe hd 0 3 rfl rfl rfl rfl
  obtain⟨v4_0,e4,h4_1⟩:=sH hd 1 4 rfl rfl rfl rfl
  exact dc0 (r_call Tryz.func100 en100.1 en100.2 (map2 e3 e4)) (rmk_any _ _ (z) (1) _ (h1.below (below_to st.bel hb)) (Wc.wz h4_1)) rfl rfl
 intro a w5 hF bb hall hne
 replace st:=st.to bb
 obtain⟨vv6,e5,hh7⟩:=sS hall 2 5 rfl rfl
 replace st:=st.add hh7 (Rq.cl _)
 clear hh7
 clear hall hne bb
 obtain⟨b8,ad8,n8,c8,ae8,m8,d8,rfl⟩:=Rq.form (st.f 0 rfl)
 replace hF:=hF.add e5
 clear e5
 refine S.sto st hF 0 rfl (hF.at 1 rfl) (hF.at 0 rfl) ty_Rat rfl rfl rfl rfl fun w9 a st hF=>?_
 refine E.nil ?_
 refine wp_ret ?_
 refine S.ret Tryz.results116 st hF (hF.at 1 rfl) 0 rfl ty_Rat rfl hF.dfr ?_
 have bel:=st.bel
 exact⟨_,rfl,Rq.castM (st.f 0 rfl) (of_one z),bel⟩
theorem cFrac_any (v1:Value) (qx:Rat) (k:Nat) (w:World) (h1:Rq w v1 qx) (hl:RLim qx k) (hk:k≤10000):
 Calls Tryz.prog 221 #[v1] w (RqPost w (qx-((Rat.floor qx:Int):Rat))):=by
 have st:=St.start w
 refine E.enter (nt:=8) (L:=[(0,v1)]) Tryz.func221 rfl rfl rfl (args_cons (i:=0) rfl args_nil) ?_
 intro a hF
 refine wp_seq ?_
 refine E.seq ?_
 obtain⟨b2,ad2,n2,c2,ae2,m2,d2,rfl⟩:=Rq.form h1
 refine S.box st hF (hF.at 0 rfl) rfl rfl fun g1 w1 a st hF=>?_
 refine S.alloc st hF ty_Rat rfl rfl fun g2 w3 a st hF=>?_
 refine E.nil ?_
 refine wp_seq ?_
 refine E.drawn 5 mixed hF [3,4,5,6,7] [(fun _ v=>v= .agg #[.bool b2,.slice ad2 n2 c2,.slice ae2 m2 d2]),(fun _ v=>v= .agg #[.bool b2,.slice ad2 n2 c2,.slice ae2 m2 d2]),(fun w v=>Wc w v (Rat.floor (qx))),(fun w v=>Rq w v (((Rat.floor (qx):Int):Rat))),(fun w v=>Rq w v ((qx)-(((Rat.floor (qx):Int):Rat))))] [] (by decide+kernel) (by decide+kernel) rfl rfl rfl ⟨(Mb.eq _),(Mb.eq _),(fun _ _ _ h hb=>h.below hb),(fun _ _ _ h hb=>h.below hb),(fun _ _ _ h hb=>h.below hb),trivial⟩ trivial ⟨?_,?_,?_,?_,?_,trivial⟩ ?_
 ·intro a' w' hF' hb hd
  exact dv0 (r_load (hF'.at 1 rfl) (ld_all ty_Rat ((st.bk 1 rfl).below hb) rfl)) rfl rfl rfl
 ·intro a' w' hF' hb hd
  exact dv0 (r_load (hF'.at 1 rfl) (ld_all ty_Rat ((st.bk 1 rfl).below hb) rfl)) rfl rfl rfl
 ·intro a' w' hF' hb hd
  have e4:=sHe hd 0 4 rfl rfl rfl rfl
  exact dc0 (r_call Tryz.func117 en117.1 en117.2 (map1 e4)) (cFloor_any _ (qx) k _ (h1.below (below_to st.bel hb)) hl (by omega)) rfl rfl
 ·intro a' w' hF' hb hd
  obtain⟨v5_0,e5,h5_1⟩:=sH hd 0 5 rfl rfl rfl rfl
  exact dc0 (r_call Tryz.func116 en116.1 en116.2 (map1 e5)) (cOf_any _ (Rat.floor (qx)) _ (Wc.wz h5_1)) rfl rfl
 ·intro a' w' hF' hb hd
  have e3:=sHe hd 0 3 rfl rfl rfl rfl
  obtain⟨v6_0,e6,h6_1⟩:=sH hd 1 6 rfl rfl rfl rfl
  exact dc0 (r_call Tryz.func57 en57.1 en57.2 (map2 e3 e6)) (rSub_any _ _ (qx) _ (max k ((k+1)+1)) _ (h1.below (below_to st.bel hb)) h6_1 (hl.up _ (by omega)) ((rlim_int (Lim.up (fl_lim hl) ((k+1)+1) (by omega)) (by omega)).up _ (by omega)) (by omega)) rfl rfl
 intro a w4 hF bb hall hne
 replace st:=st.to bb
 obtain⟨vv5,e7,hh6⟩:=sS hall 4 7 rfl rfl
 replace st:=st.add hh6 (Rq.cl _)
 clear hh6
 clear hall hne bb
 obtain⟨b7,ad7,n7,c7,ae7,m7,d7,rfl⟩:=Rq.form (st.f 0 rfl)
 replace hF:=hF.add e7
 clear e7
 refine S.sto st hF 0 rfl (hF.at 1 rfl) (hF.at 0 rfl) ty_Rat rfl rfl rfl rfl fun w8 a st hF=>?_
 refine E.nil ?_
 refine wp_ret ?_
 refine S.ret Tryz.results221 st hF (hF.at 1 rfl) 0 rfl ty_Rat rfl hF.dfr ?_
 have bel:=st.bel
 exact⟨_,rfl,(st.f 0 rfl),bel⟩
theorem cMod_any (v1 v2:Value) (qx mx:Rat) (k j:Nat) (w:World) (h1:Rq w v1 qx) (h2:Rq w v2 mx) (hl:RLim qx k) (hm:RLim mx j) (hk:k≤1000) (hj:j≤1000):
 Calls Tryz.prog 220 #[v1,v2] w (RqPost w (rmod qx mx)):=by
 by_cases h0:sz (Rat.num (mx))≤0
 ·have st:=St.start w
  refine E.enter (nt:=18) (L:=[(0,v1),(1,v2)]) Tryz.func220 rfl rfl rfl (args_cons (i:=0) rfl (args_cons (i:=1) rfl args_nil)) ?_
  intro a hF
  refine wp_seq ?_
  refine E.seq ?_
  obtain⟨b2,ad2,n2,c2,ae2,m2,d2,rfl⟩:=Rq.form h1
  refine S.box st hF (hF.at 0 rfl) rfl rfl fun g2 w1 a st hF=>?_
  obtain⟨b4,ad4,n4,c4,ae4,m4,d4,rfl⟩:=Rq.form h2
  refine S.box st hF (hF.at 2 rfl) rfl rfl fun g3 w3 a st hF=>?_
  refine S.alloc st hF ty_Rat rfl rfl fun g4 w5 a st hF=>?_
  refine E.nil ?_
  refine wp_seq ?_
  refine wp_seq ?_
  refine E.seq ?_
  refine E.opv hF (r_load (hF.at 1 rfl) (ld_all ty_Rat (st.bk 1 rfl) rfl)) rfl rfl rfl rfl fun a hF=>?_
  refine S.callx st hF (r_call Tryz.func141 en141.1 en141.2 (map1 (hF.at 0 rfl))) (rsgn_any _ (mx) _ (h2.below st.bel)) rfl rfl rfl rfl fun w6 a st hF=>?_
  refine E.opv hF (r_bin (hF.at 0 rfl) ev_c eg_scalar (bi_int (ic_leq (c:=true) (dec_tt h0)) (by simp))) rfl rfl rfl rfl fun a hF=>?_
  refine E.nil ?_
  refine wp_cond_true (hF.at 0 rfl) ?_
  refine wp_seq ?_
  refine E.seq ?_
  refine E.opv hF (r_build (by simp) (bd_Rat_ _)) rfl rfl rfl rfl fun a hF=>?_
  refine S.sto st hF 0 rfl (hF.at 4 rfl) (hF.at 0 rfl) ty_Rat rfl rfl rfl rfl fun w7 a st hF=>?_
  refine E.nil ?_
  refine wp_ret ?_
  refine S.ret Tryz.results220 st hF (hF.at 4 rfl) 0 rfl ty_Rat rfl hF.dfr ?_
  have bel:=st.bel
  exact⟨_,rfl,Rq.castM (Rq.zero _) (rmod_no h0),bel⟩
 ·have st:=St.start w
  refine E.enter (nt:=18) (L:=[(0,v1),(1,v2)]) Tryz.func220 rfl rfl rfl (args_cons (i:=0) rfl (args_cons (i:=1) rfl args_nil)) ?_
  intro a hF
  refine wp_seq ?_
  refine E.seq ?_
  obtain⟨b2,ad2,n2,c2,ae2,m2,d2,rfl⟩:=Rq.form h1
  refine S.box st hF (hF.at 0 rfl) rfl rfl fun g2 w1 a st hF=>?_
  obtain⟨b4,ad4,n4,c4,ae4,m4,d4,rfl⟩:=Rq.form h2
  refine S.box st hF (hF.at 2 rfl) rfl rfl fun g3 w3 a st hF=>?_
  refine S.alloc st hF ty_Rat rfl rfl fun g4 w5 a st hF=>?_
  refine E.nil ?_
  refine wp_seq ?_
  refine wp_seq ?_
  refine E.seq ?_
  refine E.opv hF (r_load (hF.at 1 rfl) (ld_all ty_Rat (st.bk 1 rfl) rfl)) rfl rfl rfl rfl fun a hF=>?_
  refine S.callx st hF (r_call Tryz.func141 en141.1 en141.2 (map1 (hF.at 0 rfl))) (rsgn_any _ (mx) _ (h2.below st.bel)) rfl rfl rfl rfl fun w6 a st hF=>?_
  refine E.opv hF (r_bin (hF.at 0 rfl) ev_c eg_scalar (bi_int (ic_leq (c:=false) (dec_ff h0)) (by simp))) rfl rfl rfl rfl fun a hF=>?_
  refine E.nil ?_
  refine wp_cond_false (hF.at 0 rfl) ?_
  refine wp_skip ?_
  refine E.norm ?_
  refine wp_seq ?_
  refine E.drawn 9 mixed hF [9,10,11,12,13,14,15,16,17] [(fun _ v=>v= .agg #[.bool b2,.slice ad2 n2 c2,.slice ae2 m2 d2]),(fun _ v=>v= .agg #[.bool b4,.slice ad4 n4 c4,.slice ae4 m4 d4]),(fun _ v=>v= .agg #[.bool b2,.slice ad2 n2 c2,.slice ae2 m2 d2]),(fun _ v=>v= .agg #[.bool b4,.slice ad4 n4 c4,.slice ae4 m4 d4]),(fun w v=>Rq w v ((qx)/(mx))),(fun w v=>Wc w v (Rat.floor ((qx)/(mx)))),(fun w v=>Rq w v (((Rat.floor ((qx)/(mx)):Int):Rat))),(fun w v=>Rq w v ((mx)*(((Rat.floor ((qx)/(mx)):Int):Rat)))),(fun w v=>Rq w v ((qx)-((mx)*(((Rat.floor ((qx)/(mx)):Int):Rat)))))] [] (by decide+kernel) (by decide+kernel) rfl rfl rfl ⟨(Mb.eq _),(Mb.eq _),(Mb.eq _),(Mb.eq _),(fun _ _ _ h hb=>h.below hb),(fun _ _ _ h hb=>h.below hb),(fun _ _ _ h hb=>h.below hb),(fun _ _ _ h hb=>h.below hb),(fun _ _ _ h hb=>h.below hb),trivial⟩ trivial ⟨?_,?_,?_,?_,?_,?_,?_,?_,?_,trivial⟩ ?_
  ·intro a' w' hF' hb hd
   exact dv0 (r_load (hF'.at 5 rfl) (ld_all ty_Rat ((st.bk 2 rfl).below hb) rfl)) rfl rfl rfl
  ·intro a' w' hF' hb hd
   exact dv0 (r_load (hF'.at 4 rfl) (ld_all ty_Rat ((st.bk 1 rfl).below hb) rfl)) rfl rfl rfl
  ·intro a' w' hF' hb hd
   exact dv0 (r_load (hF'.at 5 rfl) (ld_all ty_Rat ((st.bk 2 rfl).below hb) rfl)) rfl rfl rfl
  ·intro a' w' hF' hb hd
   exact dv0 (r_load (hF'.at 4 rfl) (ld_all ty_Rat ((st.bk 1 rfl).below hb) rfl)) rfl rfl rfl
  ·intro a' w' hF' hb hd
   have e11:=sHe hd 0 11 rfl rfl rfl rfl
   have e12:=sHe hd 1 12 rfl rfl rfl rfl
   exact dc0 (r_call Tryz.func75 en75.1 en75.2 (map2 e11 e12)) (rDiv_any _ _ (qx) (mx) (max k j) _ (h1.below (below_to st.bel hb)) (h2.below (below_to st.bel hb)) (hl.up _ (by omega)) (hm.up _ (by omega)) (by omega)) rfl rfl
  ·intro a' w' hF' hb hd
   obtain⟨v13_0,e13,h13_1⟩:=sH hd 0 13 rfl rfl rfl rfl
   exact dc0 (r_call Tryz.func117 en117.1 en117.2 (map1 e13)) (cFloor_any _ _ (k+j) _ h13_1 (rlim_div hl hm) (by omega)) rfl rfl
  ·intro a' w' hF' hb hd
   obtain⟨v14_0,e14,h14_1⟩:=sH hd 0 14 rfl rfl rfl rfl
   exact dc0 (r_call Tryz.func116 en116.1 en116.2 (map1 e14)) (cOf_any _ (Rat.floor ((qx)/(mx))) _ (Wc.wz h14_1)) rfl rfl
  ·intro a' w' hF' hb hd
   have e10:=sHe hd 0 10 rfl rfl rfl rfl
   obtain⟨v15_0,e15,h15_1⟩:=sH hd 1 15 rfl rfl rfl rfl
   exact dc0 (r_call Tryz.func58 en58.1 en58.2 (map2 e10 e15)) (rMul_any _ _ (mx) _ (max j (((k+j)+1)+1)) _ (h2.below (below_to st.bel hb)) h15_1 (hm.up _ (by omega)) ((rlim_int (Lim.up (fl_lim (rlim_div hl hm)) (((k+j)+1)+1) (by omega)) (by omega)).up _ (by omega)) (by omega)) rfl rfl
  ·intro a' w' hF' hb hd
   have e9:=sHe hd 0 9 rfl rfl rfl rfl
   obtain⟨v16_0,e16,h16_1⟩:=sH hd 1 16 rfl rfl rfl rfl
   exact dc0 (r_call Tryz.func57 en57.1 en57.2 (map2 e9 e16)) (rSub_any _ _ (qx) _ (max k (j+(((k+j)+1)+1))) _ (h1.below (below_to st.bel hb)) h16_1 (hl.up _ (by omega)) ((rlim_mul hm (rlim_int (Lim.up (fl_lim (rlim_div hl hm)) (((k+j)+1)+1) (by omega)) (by omega))).up _ (by omega)) (by omega)) rfl rfl
  intro a w7 hF bb hall hne
  replace st:=st.to bb
  obtain⟨vv8,e17,hh9⟩:=sS hall 8 17 rfl rfl
  replace st:=st.add hh9 (Rq.cl _)
  clear hh9
  clear hall hne bb
  obtain⟨b10,ad10,n10,c10,ae10,m10,d10,rfl⟩:=Rq.form (st.f 0 rfl)
  replace hF:=hF.add e17
  clear e17
  refine S.sto st hF 0 rfl (hF.at 4 rfl) (hF.at 0 rfl) ty_Rat rfl rfl rfl rfl fun w11 a st hF=>?_
  refine E.nil ?_
  refine wp_ret ?_
  refine S.ret Tryz.results220 st hF (hF.at 4 rfl) 0 rfl ty_Rat rfl hF.dfr ?_
  have bel:=st.bel
  exact⟨_,rfl,Rq.castM (st.f 0 rfl) (rmod_yes h0),bel⟩
theorem cMid_any (v1 v2:Value) (qx mx:Rat) (k j:Nat) (w:World) (h1:Rq w v1 qx) (h2:Rq w v2 mx) (hl:RLim qx k) (hm:RLim mx j) (hk:k≤1000) (hj:j≤1000):
 Calls Tryz.prog 198 #[v1,v2] w (RqPost w ((qx+mx)*(((1:Int):Rat)/((2:Int):Rat)))):=by
 have bel:Below w.heap.size w w:=Below.refl _ _
 refine E.enter (nt:=10) (L:=[(0,v1),(1,v2)]) Tryz.func198 rfl rfl rfl (args_cons (i:=0) rfl (args_cons (i:=1) rfl args_nil)) ?_
 intro a hF
 refine wp_seq ?_
 refine E.seq ?_
 obtain⟨b1,ad1,n1,c1,ae1,m1,d1,rfl,hn1,hd1⟩:=Rq.shape h1
 have hf2:=Wc.abs hn1
 obtain⟨g2,w3,ge2,hr,bb,o2⟩:=own_box (P:=Tryz.prog) (w:=w) (cs:=[.bool b1,.slice ad1 n1 c1,.slice ae1 m1 d1]) (v:= .agg #[.bool b1,.slice ad1 n1 c1,.slice ae1 m1 d1]) 33 rfl (niB (niS (niS ni0)))
 replace ge2:w.heap.size≤g2:=by rw[←ge2];exact bel.size
 refine E.opv hF (r_box (hF.at 0 rfl) hr) rfl rfl rfl rfl fun a hF=>?_
 clear hr
 replace h2:=h2.below bb
 replace h1:=h1.below bb
 replace hn1:=hn1.below bb
 replace hf2:=hf2.below bb
 replace hd1:=hd1.below bb
 replace bel:=below_to bel bb
 clear bb
 obtain⟨b4,ad4,n4,c4,ae4,m4,d4,rfl,hn4,hd4⟩:=Rq.shape h2
 have hf5:=Wc.abs hn4
 obtain⟨g3,w6,ge3,hr,bb,o3⟩:=own_box (P:=Tryz.prog) (w:=w3) (cs:=[.bool b4,.slice ad4 n4 c4,.slice ae4 m4 d4]) (v:= .agg #[.bool b4,.slice ad4 n4 c4,.slice ae4 m4 d4]) 33 rfl (niB (niS (niS ni0)))
 have ne2_3:g2≠g3:=by rw[←ge3];exact o2.ne_new
 replace ge3:w.heap.size≤g3:=by rw[←ge3];exact bel.size
 refine E.opv hF (r_box (hF.at 2 rfl) hr) rfl rfl rfl rfl fun a hF=>?_
 clear hr
 replace hf2:=hf2.below bb
 replace hd1:=hd1.below bb
 replace h1:=h1.below bb
 replace hn1:=hn1.below bb
 replace h2:=h2.below bb
 replace hn4:=hn4.below bb
 replace hf5:=hf5.below bb
 replace hd4:=hd4.below bb
 replace o2:=o2.below bb
 replace bel:=below_to bel bb
 clear bb
 obtain⟨g4,w7,ge4,hr,bb,o4⟩:=own_alloc (P:=Tryz.prog) (w:=w6) (cs:=[.bool false,.slice none 0 0,.slice none 0 0]) 33 ze_Rat rfl (niB (niS (niS ni0)))
 have ne2_4:g2≠g4:=by rw[←ge4];exact o2.ne_new
 have ne3_4:g3≠g4:=by rw[←ge4];exact o3.ne_new
 replace ge4:w.heap.size≤g4:=by rw[←ge4];exact bel.size
 refine E.opv hF (r_alloc hr) rfl rfl rfl rfl fun a hF=>?_
 clear hr
 replace hf2:=hf2.below bb
 replace hd1:=hd1.below bb
 replace h1:=h1.below bb
 replace hn1:=hn1.below bb
 replace hf5:=hf5.below bb
 replace hd4:=hd4.below bb
 replace h2:=h2.below bb
 replace hn4:=hn4.below bb
 replace o2:=o2.below bb
 replace o3:=o3.below bb
 replace bel:=below_to bel bb
 clear bb
 refine E.nil ?_
 refine wp_seq ?_
 refine E.seq ?_
 refine E.opv hF (r_load (hF.at 2 rfl) (ld_Rat (vs:=[.bool b1,.slice ad1 n1 c1,.slice ae1 m1 d1]) o2 rfl rfl)) rfl rfl rfl rfl fun a hF=>?_
 refine E.opv hF (r_load (hF.at 2 rfl) (ld_Rat (vs:=[.bool b4,.slice ad4 n4 c4,.slice ae4 m4 d4]) o3 rfl rfl)) rfl rfl rfl rfl fun a hF=>?_
 refine E.call hF (r_call Tryz.func56 en56.1 en56.2 (map2 (hF.at 1 rfl) (hF.at 0 rfl))) (rAdd_any _ _ (qx) (mx) (max k j) _ h1 h2 (hl.up _ (by omega)) (hm.up _ (by omega)) (by omega)) rfl rfl rfl rfl ?_
 rintro e w8 ⟨vv9,rfl,hh10,bb⟩
 refine⟨_,rfl,?_⟩
 intro a hF
 replace o4:=o4.below bb
 replace bel:=below_to bel bb
 clear bb
 obtain⟨b11,ad11,n11,c11,ae11,m11,d11,rfl,hn11,hd11⟩:=Rq.shape hh10
 have hf12:=Wc.abs hn11
 refine E.call hF (r_call Tryz.func35 en35.1 en35.2 (map2 ev_c ev_c)) (rOf2_any (1) (2) _ (by decide) (by decide) (by decide) (by decide)) rfl rfl rfl rfl ?_
 rintro e w13 ⟨vv14,rfl,hh15,bb⟩
 refine⟨_,rfl,?_⟩
 intro a hF
 replace hh10:=hh10.below bb
 replace hn11:=hn11.below bb
 replace hf12:=hf12.below bb
 replace hd11:=hd11.below bb
 replace o4:=o4.below bb
 replace bel:=below_to bel bb
 clear bb
 obtain⟨b16,ad16,n16,c16,ae16,m16,d16,rfl,hn16,hd16⟩:=Rq.shape hh15
 have hf17:=Wc.abs hn16
 refine E.call hF (r_call Tryz.func58 en58.1 en58.2 (map2 (hF.at 1 rfl) (hF.at 0 rfl))) (rMul_any _ _ ((qx)+(mx)) (((1:Int):Rat)/((2:Int):Rat)) (max (k+j+1) 2) _ hh10 hh15 ((rlim_add hl hm).up _ (by omega)) ((RLim.up (rlim_mk2 (limz_64 (by decide) (by decide)) (limz_64 (by decide) (by decide))) 2 (by decide)).up _ (by omega)) (by omega)) rfl rfl rfl rfl ?_
 rintro e w18 ⟨vv19,rfl,hh20,bb⟩
 refine⟨_,rfl,?_⟩
 intro a hF
 replace o4:=o4.below bb
 replace bel:=below_to bel bb
 clear bb
 obtain⟨b21,ad21,n21,c21,ae21,m21,d21,rfl,hn21,hd21⟩:=Rq.shape hh20
 have hf22:=Wc.abs hn21
 obtain⟨w23,hr,tu,on⟩:=st_Rat (vs:=[.bool b21,.slice ad21 n21 c21,.slice ae21 m21 d21]) o4 rfl rfl (ocB (ocS (ocS oc0))) (niB (niS (niS ni0))) (o:=0) rfl
 have kp:=tu.keep o4
 refine E.st hF (r_store (hF.at 5 rfl) (hF.at 0 rfl) (hr _ rfl)) rfl rfl fun a hF=>?_
 clear hr
 replace hh20:=hh20.keep kp
 replace hn21:=hn21.keep kp
 replace hf22:=hf22.keep kp
 replace hd21:=hd21.keep kp
 replace bel:=tu.below bel ge4
 clear tu kp
 replace o4:=on
 clear on
 refine E.nil ?_
 refine wp_ret ?_
 refine bodyPost_ret (res_cell Tryz.results198 (hF.at 5 rfl) (ld_Rat (vs:=[.bool b21,.slice ad21 n21 c21,.slice ae21 m21 d21]) o4 rfl rfl)) hF.dfr ?_
 exact⟨_,rfl,hh20,bel⟩
end
end
end Go.Proofs.YtnljadejcfgmaaaGreatDoor
