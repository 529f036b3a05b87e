import Derived.Test.YtnljadejcfgmaaaGreatDoorKC41
import Derived.Test.YtnljadejcfgmaaaGreatDoorKC42
namespace Go.Proofs.YtnljadejcfgmaaaGreatDoor
open Go.RowKit
set_option maxRecDepth 100000
set_option linter.unusedVariables false
set_option maxHeartbeats 8000000
theorem row0_cl (v:Value):Cl fun _=>∃ad cap,v= .slice ad 0 cap:=fun _ _ h _=>h
theorem moR_cell1 (d:Int) (more:List Value) {k j f:Nat} (h0:0<j) (h:j≤k) (hf:f<4):(moR d k++more)[4*(j-1)+f]?=(moC (moD d (j-1)) (moD d j))[f]?:=by
 have e:=moR_cell d more (k:=k) (i:=j-1) (j:=f) (by omega) hf
 rwa[show j-1+1=j by omega] at e
theorem mo_two {d:Int} (h:comes d=true) {j:Nat} (hj:0<j):smV (moD d (j-1))≤smV (moD d j)∧smV (moD d j)≤smV (moD d (j-1))+2∧smV (moD d (j-1))<smV (moD d (j+1)):=by
 obtain⟨i,rfl⟩:∃i,j=i+1:=⟨j-1,by omega⟩
 rw[show i+1-1=i by omega]
 have s:=sm_next (moD_comes h i)
 exact⟨s.1,s.2,sm_two (moD_comes h i)⟩
theorem loV_pos {s t:Int} (h0:0≤s) (h1:s≤11):0<loV s t↔t=(s+2)%12:=by
 unfold loV
 split <;> omega
theorem bl_mo6 {w:World} {ty:TypeId} {a:Option Addr} {c:Nat}:(builtin .len #[79] ty #[false] #[.slice a 6 c]).run Tryz.prog w= .ok (.value (.int .i64 6)) w:=bl_mos
theorem bl_mo00 {w:World} {ty:TypeId} {a:Option Addr} {c:Nat}:(builtin .len #[79] ty #[false] #[.slice a 0 c]).run Tryz.prog w= .ok (.value (.int .i64 0)) w:=bl_mos
theorem moRow0_any (v1:Value) (qt:Rat) (k:Nat) (w:World) (hT:TabD w) (h1:Rq w v1 qt) (hl:RLim qt k) (hk:k≤100) (hf0: -9000000≤Rat.floor qt) (hf1:Rat.floor qt≤9000000):Calls Tryz.prog 39 #[v1,.int .i64 (-1)] w (fun e w'=>∃v,e= .returned v∧(∃ad cap,v= .slice ad 0 cap)∧Below w.heap.size w w'):=
 (moRow_any (-1) 0 v1 qt k w hT h1 hl hk hf0 hf1 (by decide)).mono fun _ _ ⟨ad,cap,e,_,b⟩=>⟨_,e,⟨ad,cap,rfl⟩,b⟩
theorem moAt_ar {v1:Value} {qt:Rat} {k:Nat} {fd:Int} (w:World) (hT:TabD w) (h1:Rq w v1 qt) (hl:RLim qt k) (hk:k≤100) (hf0: -90000000≤Rat.floor qt) (hf1:Rat.floor qt≤90000000) (e:lastV qt=fd):Calls Tryz.prog 34 #[v1] w (ValPost w (.agg #[.int .i64 fd,.int .i64 (nextD fd),.int .i64 (smV fd%12),.int .i64 (smV (nextD fd)%12)])):=by
 subst e
 exact moAt_any v1 qt k w hT h1 hl hk hf0 hf1
theorem moonsRow_walk (da:Int) (w:World) (hT:TabD w):
 Calls Tryz.prog 10 #[.int .i64 da] w (ValPost w (.bool true)):=by
 have hin0:=inD_bd da
 have hln:=lastI_bd (inD da)
 obtain⟨fd,hfd⟩:∃z:Int,lastV (((inD da:Int)):Rat)=z:=⟨_,rfl⟩
 rw[hfd] at hln
 have hns:=nextD_spec hln.2.2
 have hsm:=sm_next hln.2.2
 have hm1:=moD_bd hln.2.2 1
 have hm0:moD fd 0=fd:=rfl
 have st:=St.start w
 refine E.enter (nt:=132) (L:=[(0,.int .i64 da)]) Tryz.func10 rfl rfl rfl (args_cons (i:=0) rfl args_nil) ?_
 intro a hF
 refine wp_seq ?_
 refine E.seq ?_
 refine E.opv hF (r_assign ev_c) rfl rfl rfl rfl fun a hF=>?_
 refine E.nil ?_
 refine wp_seq ?_
 refine wp_seq ?_
 refine E.seq ?_
 refine S.callx st hF (rgc k33 map0) (awake19_any _) rfl rfl rfl rfl fun w1 a st hF=>?_
 refine E.opv hF (r_un (hF.at 0 rfl) (bn_not _ false rfl)) rfl rfl rfl rfl fun a hF=>?_
 refine E.nil ?_
 refine wp_cond_false (hF.at 0 rfl) ?_
 refine wp_skip ?_
 refine E.norm ?_
 refine wp_seq ?_
 refine E.seq ?_
 refine E.opv hF (r_move (hF.at 3 rfl)) rfl rfl rfl rfl fun a hF=>?_
 refine S.callx st hF (rgc k14 (map1 (hF.at 0 rfl))) (inD_any da _) rfl rfl rfl rfl fun w2 a st hF=>?_
 have hin:=inD_bd da
 refine S.ck st hF (rgc k40 (map1 (hF.at 0 rfl))) (rq_ret (rWhole_any (inD da) _ (by omega) (by omega)) (rlim_int (limz_64 (by omega) (by omega)) (by omega))) Rl.cl rfl fun vv4 w3 a st hF=>?_
 obtain⟨b6,ad6,n6,c6,ae6,m6,d6,rfl⟩:=Rq.form (st.f 0 rfl).1
 refine E.call hF (rgc k39 (map2 (hF.at 0 rfl) ev_c)) (moRow_any 6 6 _ (((inD da:Int):Rat)) 2 _ (hT.below st.bel) (st.f 0 rfl).1 (st.f 0 rfl).2 (by omega) (by rw[Rat.floor_intCast];omega) (by rw[Rat.floor_intCast];omega) (by decide)) rfl rfl rfl rfl ?_
 rintro e w7 ⟨_,cap,rfl,hia,bb⟩
 refine⟨_,rfl,?_⟩
 intro a hF
 obtain⟨gr,more,rfl,_,hge,hbk⟩:=hia.row (by decide)
 rw[hfd] at hbk
 replace st:=(st.to bb).push hbk (Nat.le_trans st.bel.size hge) (st.ne hge)
 clear hia bb hbk hge
 refine E.opv hF (r_assign (hF.at 0 rfl)) rfl rfl rfl rfl fun a hF=>?_
 refine E.nil ?_
 refine wp_seq ?_
 refine wp_seq ?_
 refine E.rg 11 mixed hF [13,14,15,16,17,18,19,20,21,22,23] [_,.ex (.int .i64 6),.ex (.bool false),.ex (.bool false),.ex (.slice (some ⟨gr,0,none⟩) 6 cap),.ex (.pointer (some ⟨gr,4*0,none⟩)),.ex (.agg #[.int .i64 (moD fd 0),.int .i64 (moD fd 1),.int .i64 (smV (moD fd 0)%12),.int .i64 (smV (moD fd 1)%12)]),.ex (.int .i64 da),.ex (.int .i64 (inD da)),.of (fun w v=>Rl (((inD da:Int):Rat)) (2) w v) (Rl.mb _ _),.ex (.agg #[.int .i64 fd,.int .i64 (nextD fd),.int .i64 (smV fd%12),.int .i64 (smV (nextD fd)%12)])] (by decide+kernel) rfl rfl rfl ⟨rm 0 rfl,(by intro a' w' hF' hb hd;have e13:=sHe hd 0 13 rfl rfl rfl rfl;exact dv0 (r_builtin (map1 e13) bl_mo6) rfl rfl rfl),(by intro a' w' hF' hb hd;have e14:=sHe hd 0 14 rfl rfl rfl rfl;exact dv0 (r_bin e14 ev_c eg_scalar (bi_int (ic_neq (c:=false) (by decide)) (by simp))) rfl rfl rfl),(by intro a' w' hF' hb hd;have e15:=sHe hd 0 15 rfl rfl rfl rfl;exact dv0 (r_move e15) rfl rfl rfl),(by intro a' w' hF' hb hd;have e16:=sHe hd 0 16 rfl rfl rfl rfl;exact dv1 (wanted_by rfl rfl e16 rfl) (r_move (hF'.at 0 rfl)) rfl rfl),(by intro a' w' hF' hb hd;have e16:=sHe hd 1 16 rfl rfl rfl rfl;have e17:=sHe hd 0 17 rfl rfl rfl rfl;exact dv1 (wanted_by rfl rfl e16 rfl) (r_index e17 ev_c (ix_mo (i:=0) (by omega) (by omega))) rfl rfl),(by intro a' w' hF' hb hd;have e16:=sHe hd 1 16 rfl rfl rfl rfl;have e18:=sHe hd 0 18 rfl rfl rfl rfl;exact dv1 (wanted_by rfl rfl e16 rfl) (r_load e18 (ldb_MMO (vs:=[.int .i64 (moD fd 0),.int .i64 (moD fd 1),.int .i64 (smV (moD fd 0)%12),.int .i64 (smV (moD fd 1)%12)]) ((st.bk 0 rfl).below hb) (moR_at _ _ (by omega)) rfl)) rfl rfl),(by intro a' w' hF' hb hd;have e16:=sHe hd 0 16 rfl rfl rfl rfl;exact dv1 (wanted_by rfl rfl e16 rfl) (r_move (hF'.at 8 rfl)) rfl rfl),(by intro a' w' hF' hb hd;have e16:=sHe hd 1 16 rfl rfl rfl rfl;have e20:=sHe hd 0 20 rfl rfl rfl rfl;exact dcx1 (wanted_by rfl rfl e16 rfl) (r_call Tryz.func14 en14.1 en14.2 (map1 e20)) (inD_any da _) (fun _=>rfl) rfl),(by intro a' w' hF' hb hd;have e16:=sHe hd 2 16 rfl rfl rfl rfl;have e21:=sHe hd 0 21 rfl rfl rfl rfl;have hin:=inD_bd da;exact dc1 (wanted_by rfl rfl e16 rfl) (r_call Tryz.func40 en40.1 en40.2 (map1 e21)) (rq_ret (rWhole_any (inD da) _ (by omega) (by omega)) (rlim_int (limz_64 (by omega) (by omega)) (by omega))) rfl),(by intro a' w' hF' hb hd;have e16:=sHe hd 2 16 rfl rfl rfl rfl;obtain⟨v22_0,e22,h22_1⟩:=sH hd 0 22 rfl rfl rfl rfl;exact dcx1 (wanted_by rfl rfl e16 rfl) (r_call Tryz.func34 en34.1 en34.2 (map1 e22)) (moAt_ar _ (hT.below (below_to st.bel hb)) h22_1.1 h22_1.2 (by omega) (by rw[Rat.floor_intCast];omega) (by rw[Rat.floor_intCast];omega) hfd) (fun _=>rfl) rfl),trivial⟩ ?_
 intro a w8 hF bb hall
 replace st:=st.to bb
 replace hF:=rE hall hF 3 rfl rfl
 replace hF:=rE hall hF 6 rfl rfl
 replace hF:=rE hall hF 10 rfl rfl
 clear hall bb
 refine E.opvg hF (r_bin (hF.at 1 rfl) (hF.at 0 rfl) eg_MMO (ens_MMO (dec_tt ⟨rfl,rfl,rfl,rfl⟩))) (wanted_by rfl rfl (hF.at 2 rfl) rfl) rfl rfl rfl fun a hF=>?_
 refine E.opv hF (r_pick_f (hF.at 3 rfl) (hF.at 0 rfl)) rfl rfl rfl rfl fun a hF=>?_
 refine E.nil ?_
 refine wp_cond_false (hF.at 0 rfl) ?_
 refine wp_skip ?_
 refine E.norm ?_
 refine wp_seq ?_
 refine wp_seq ?_
 refine E.seq ?_
 refine E.opv hF (r_move (hF.at 5 rfl)) rfl rfl rfl rfl fun a hF=>?_
 refine E.opv hF (r_builtin (map1 (hF.at 0 rfl)) bl_mo6) rfl rfl rfl rfl fun a hF=>?_
 refine E.opv hF (r_move ev_c) rfl rfl rfl rfl fun a hF=>?_
 refine E.nil ?_
 refine wp_block ?_
 refine E.loop (fun mq a wv=>∃(j:Nat),j≤6∧Fr 132 a [(28,.int .i64 ((j:Nat):Int)),(27,.int .i64 6),(26,.slice (some ⟨gr,0,none⟩) 6 cap),(3,.slice (some ⟨gr,0,none⟩) 6 cap)]∧St w wv [(gr,moR fd 6++more)] []∧mq=6-j) ((6-0)) ?_ ?_
 ·exact⟨0,(by omega),Fr.pick (L':=[(28,.int .i64 0),(27,.int .i64 6),(26,.slice (some ⟨gr,0,none⟩) 6 cap),(3,.slice (some ⟨gr,0,none⟩) 6 cap)]) hF [0,1,2,8] rfl,st.pick [0] [] rfl rfl (by decide),rfl⟩
 ·rintro mq a w9 ⟨j,hj6,hF,st,hm⟩
  have hmb0:=moD_bd hln.2.2 j
  have hmb1:=moD_bd hln.2.2 (j+1)
  have hnj:moD fd j+28≤moD fd (j+1):=(nextD_spec (moD_comes hln.2.2 j)).1
  have hsj:smV (moD fd j)≤smV (moD fd (j+1))∧smV (moD fd (j+1))≤smV (moD fd j)+2:=sm_next (moD_comes hln.2.2 j)
  have hsk:0<j→smV (moD fd (j-1))≤smV (moD fd j)∧smV (moD fd j)≤smV (moD fd (j-1))+2∧smV (moD fd (j-1))<smV (moD fd (j+1)):=fun h=>mo_two hln.2.2 h
  have hlo:=loV_pos (s:=smV (moD fd j)%12) (t:=smV (moD fd (j+1))%12) (by omega) (by omega)
  refine wp_seq ?_
  refine E.seq ?_
  by_cases hc10:((j:Nat):Int)<6
  ·refine E.opv hF (r_bin (hF.at 0 rfl) (hF.at 1 rfl) eg_scalar (bi_int (ic_lss (c:=true) (dec_tt hc10)) (by simp))) rfl rfl rfl rfl fun a hF=>?_
   refine E.nil ?_
   refine wp_seq ?_
   refine wp_cond_true (hF.at 0 rfl) ?_
   refine wp_skip ?_
   refine E.norm ?_
   refine wp_seq ?_
   refine wp_block ?_
   refine wp_seq ?_
   refine E.seq ?_
   refine E.opv hF (r_move (hF.at 1 rfl)) rfl rfl rfl rfl fun a hF=>?_
   refine E.opv hF (r_index (hF.at 4 rfl) (hF.at 2 rfl) (ix_mo (i:=j) (by omega) (by omega))) rfl rfl rfl rfl fun a hF=>?_
   refine E.opv hF (r_load (hF.at 0 rfl) (ldb_MMO (vs:=[.int .i64 (moD fd j),.int .i64 (moD fd (j+1)),.int .i64 (smV (moD fd j)%12),.int .i64 (smV (moD fd (j+1))%12)]) (st.bk 0 rfl) (moR_at _ _ (by omega)) rfl)) rfl rfl rfl rfl fun a hF=>?_
   refine S.alloc st hF ty_MMO rfl rfl fun g5 w11 a st hF=>?_
   refine E.opv hF (r_assign (hF.at 3 rfl)) rfl rfl rfl rfl fun a hF=>?_
   refine S.stoI st hF 0 rfl (hF.at 1 rfl) (hF.at 2 rfl) ty_MMO rfl rfl rfl fun w12 a st hF=>?_
   refine E.nil ?_
   refine wp_seq ?_
   refine E.seq ?_
   refine E.opv hF (r_field (hF.at 1 rfl) (fa_MMO_3 (p:=3) rfl)) rfl rfl rfl rfl fun a hF=>?_
   refine E.opv hF (r_load (hF.at 0 rfl) (ldb_int (v:= .int .i64 (smV (moD fd (j+1))%12)) (st.bk 0 rfl) rfl)) rfl rfl rfl rfl fun a hF=>?_
   refine E.opv hF (r_field (hF.at 3 rfl) (fa_MMO_2 (p:=2) rfl)) rfl rfl rfl rfl fun a hF=>?_
   refine E.opv hF (r_load (hF.at 0 rfl) (ldb_int (v:= .int .i64 (smV (moD fd j)%12)) (st.bk 0 rfl) rfl)) rfl rfl rfl rfl fun a hF=>?_
   refine E.opv hF (r_bin (hF.at 2 rfl) (hF.at 0 rfl) eg_scalar (ia_sub (by omega) (by omega))) rfl rfl rfl rfl fun a hF=>?_
   refine E.opv hF (r_bin (hF.at 0 rfl) ev_c eg_scalar (ia_add (by omega) (by omega))) rfl rfl rfl rfl fun a hF=>?_
   refine E.opv hF (r_bin (hF.at 0 rfl) ev_c eg_scalar (id_remn (a:=((smV (moD fd (j+1))%12)-(smV (moD fd j)%12))+12) (b:=12) (by omega) (by omega))) rfl rfl rfl rfl fun a hF=>?_
   refine E.opv hF (r_assign (hF.at 0 rfl)) rfl rfl rfl rfl fun a hF=>?_
   refine E.nil ?_
   refine E.mid (I:=fun a wv=>Fr 132 a [(4,.int .i64 ((j:Nat):Int)),(5,.pointer (some ⟨g5,0,none⟩)),(28,.int .i64 ((j:Nat):Int)),(27,.int .i64 6),(26,.slice (some ⟨gr,0,none⟩) 6 cap),(3,.slice (some ⟨gr,0,none⟩) 6 cap)]∧St w wv [(g5,[.int .i64 (moD fd j),.int .i64 (moD fd (j+1)),.int .i64 (smV (moD fd j)%12),.int .i64 (smV (moD fd (j+1))%12)]),(gr,moR fd 6++more)] []) ?_ ?_
   ·refine wp_seq ?_
    refine E.seq ?_
    refine E.opv hF (r_move (hF.at 0 rfl)) rfl rfl rfl rfl fun a hF=>?_
    refine E.opv hF (r_bin (hF.at 0 rfl) ev_c eg_scalar (bi_int (ic_gtr (c:=false) (dec_ff (by omega))) (by simp))) rfl rfl rfl rfl fun a hF=>?_
    refine E.opv hF (r_move (hF.at 0 rfl)) rfl rfl rfl rfl fun a hF=>?_
    refine E.opvg hF (r_field (hF.at 12 rfl) (fa_MMO_1 (p:=1) rfl)) (wanted_by rfl rfl (hF.at 0 rfl) rfl) rfl rfl rfl fun a hF=>?_
    refine E.opvg hF (r_load (hF.at 0 rfl) (ldb_i64 (v:= .int .i64 (moD fd (j+1))) (st.bk 0 rfl) rfl)) (wanted_by rfl rfl (hF.at 1 rfl) rfl) rfl rfl rfl fun a hF=>?_
    refine E.opvg hF (r_field (hF.at 14 rfl) (fa_MMO_0 (p:=0) rfl)) (wanted_by rfl rfl (hF.at 2 rfl) rfl) rfl rfl rfl fun a hF=>?_
    refine E.opvg hF (r_load (hF.at 0 rfl) (ldb_i64 (v:= .int .i64 (moD fd j)) (st.bk 0 rfl) rfl)) (wanted_by rfl rfl (hF.at 3 rfl) rfl) rfl rfl rfl fun a hF=>?_
    refine E.opvg hF (r_bin (hF.at 2 rfl) (hF.at 0 rfl) eg_scalar (bi_int (ic_leq (c:=false) (dec_ff (by omega))) (by simp))) (wanted_by rfl rfl (hF.at 4 rfl) rfl) rfl rfl rfl fun a hF=>?_
    refine E.opv hF (r_pick_f (hF.at 5 rfl) (hF.at 0 rfl)) rfl rfl rfl rfl fun a hF=>?_
    refine E.opv hF (r_move (hF.at 0 rfl)) rfl rfl rfl rfl fun a hF=>?_
    refine E.opvg hF (r_field (hF.at 19 rfl) (fa_MMO_0 (p:=0) rfl)) (wanted_by rfl rfl (hF.at 0 rfl) rfl) rfl rfl rfl fun a hF=>?_
    refine E.opvg hF (r_load (hF.at 0 rfl) (ldb_i64 (v:= .int .i64 (moD fd j)) (st.bk 0 rfl) rfl)) (wanted_by rfl rfl (hF.at 1 rfl) rfl) rfl rfl rfl fun a hF=>?_
    refine S.callxg st hF (wanted_by rfl rfl (hF.at 2 rfl) rfl) (rgc k41 (map1 (hF.at 0 rfl))) (skComes_any (moD fd j) _ (hT.below st.bel) (by omega) (by omega)) rfl rfl rfl fun w13 a st hF=>?_
    by_cases hc14:comes (moD fd j)=true
    ·refine E.opvg hF (r_un (Eq.trans (hF.at 0 rfl) (congrArg Value.bool hc14)) (bn_not _ false rfl)) (wanted_by rfl rfl (hF.at 3 rfl) rfl) rfl rfl rfl fun a hF=>?_
     refine E.opv hF (r_pick_f (hF.at 4 rfl) (hF.at 0 rfl)) rfl rfl rfl rfl fun a hF=>?_
     refine E.opv hF (r_move (hF.at 0 rfl)) rfl rfl rfl rfl fun a hF=>?_
     refine E.opvg hF (r_load (hF.at 25 rfl) (ld_all ty_MMO (st.bk 0 rfl) rfl)) (wanted_by rfl rfl (hF.at 0 rfl) rfl) rfl rfl rfl fun a hF=>?_
     refine S.callxg st hF (wanted_by rfl rfl (hF.at 1 rfl) rfl) (rgc k42 (map1 (hF.at 0 rfl))) (moLeap_any (moD fd j) (moD fd (j+1)) (smV (moD fd j)%12) (smV (moD fd (j+1))%12) _) rfl rfl rfl fun w15 a st hF=>?_
     refine E.opvg hF (r_move (hF.at 18 rfl)) (wanted_by rfl rfl (hF.at 2 rfl) rfl) rfl rfl rfl fun a hF=>?_
     by_cases hc16:(((smV (moD fd (j+1))%12)-(smV (moD fd j)%12))+12)%12=0
     ·refine E.opvg hF (r_bin (hF.at 0 rfl) ev_c eg_scalar (bi_int (ic_eql (c:=true) (dec_tt hc16)) (by simp))) (wanted_by rfl rfl (hF.at 3 rfl) rfl) rfl rfl rfl fun a hF=>?_
      refine E.opvg hF (r_bin (hF.at 2 rfl) (hF.at 0 rfl) eg_bool (bb_neq (d:=false) (by rw[show decide ((smV (moD fd j)%12)=(smV (moD fd (j+1))%12))=true from decide_eq_true (by omega)];rfl))) (wanted_by rfl rfl (hF.at 4 rfl) rfl) rfl rfl rfl fun a hF=>?_
      refine E.opv hF (r_pick_f (hF.at 5 rfl) (hF.at 0 rfl)) rfl rfl rfl rfl fun a hF=>?_
      refine E.opv hF (r_move (hF.at 0 rfl)) rfl rfl rfl rfl fun a hF=>?_
      refine E.opvg hF (r_load (hF.at 32 rfl) (ld_all ty_MMO (st.bk 0 rfl) rfl)) (wanted_by rfl rfl (hF.at 0 rfl) rfl) rfl rfl rfl fun a hF=>?_
      refine S.callxg st hF (wanted_by rfl rfl (hF.at 1 rfl) rfl) (rgc k43 (map1 (hF.at 0 rfl))) (moLost_any (moD fd j) (moD fd (j+1)) (smV (moD fd j)%12) (smV (moD fd (j+1))%12) _ (by omega) (by omega)) rfl rfl rfl fun w17 a st hF=>?_
      by_cases hc18:0<loV (smV (moD fd j)%12) (smV (moD fd (j+1))%12)
      ·refine E.opvg hF (r_bin (hF.at 0 rfl) ev_c eg_scalar (bi_int (ic_gtr (c:=true) (dec_tt hc18)) (by simp))) (wanted_by rfl rfl (hF.at 2 rfl) rfl) rfl rfl rfl fun a hF=>?_
       refine E.opvg hF (r_move (hF.at 26 rfl)) (wanted_by rfl rfl (hF.at 3 rfl) rfl) rfl rfl rfl fun a hF=>?_
       refine E.opvg hF (r_bin (hF.at 0 rfl) ev_c eg_scalar (bi_int (ic_eql (c:=true) (dec_tt (by omega))) (by simp))) (wanted_by rfl rfl (hF.at 4 rfl) rfl) rfl rfl rfl fun a hF=>?_
       refine E.opvg hF (r_bin (hF.at 2 rfl) (hF.at 0 rfl) eg_bool (bb_neq (d:=false) rfl)) (wanted_by rfl rfl (hF.at 5 rfl) rfl) rfl rfl rfl fun a hF=>?_
       refine E.opv hF (r_pick_f (hF.at 6 rfl) (hF.at 0 rfl)) rfl rfl rfl rfl fun a hF=>?_
       refine E.nil ?_
       refine wp_cond_false (hF.at 0 rfl) ?_
       refine wp_skip ?_
       refine E.norm ?_
       exact⟨Fr.pick (L':=[(4,.int .i64 ((j:Nat):Int)),(5,.pointer (some ⟨g5,0,none⟩)),(28,.int .i64 ((j:Nat):Int)),(27,.int .i64 6),(26,.slice (some ⟨gr,0,none⟩) 6 cap),(3,.slice (some ⟨gr,0,none⟩) 6 cap)]) hF [38,39,44,45,46,47] rfl,st.pick [0,1] [] rfl rfl (by decide)⟩
      ·refine E.opvg hF (r_bin (hF.at 0 rfl) ev_c eg_scalar (bi_int (ic_gtr (c:=false) (dec_ff hc18)) (by simp))) (wanted_by rfl rfl (hF.at 2 rfl) rfl) rfl rfl rfl fun a hF=>?_
       refine E.opvg hF (r_move (hF.at 26 rfl)) (wanted_by rfl rfl (hF.at 3 rfl) rfl) rfl rfl rfl fun a hF=>?_
       refine E.opvg hF (r_bin (hF.at 0 rfl) ev_c eg_scalar (bi_int (ic_eql (c:=false) (dec_ff (by omega))) (by simp))) (wanted_by rfl rfl (hF.at 4 rfl) rfl) rfl rfl rfl fun a hF=>?_
       refine E.opvg hF (r_bin (hF.at 2 rfl) (hF.at 0 rfl) eg_bool (bb_neq (d:=false) rfl)) (wanted_by rfl rfl (hF.at 5 rfl) rfl) rfl rfl rfl fun a hF=>?_
       refine E.opv hF (r_pick_f (hF.at 6 rfl) (hF.at 0 rfl)) rfl rfl rfl rfl fun a hF=>?_
       refine E.nil ?_
       refine wp_cond_false (hF.at 0 rfl) ?_
       refine wp_skip ?_
       refine E.norm ?_
       exact⟨Fr.pick (L':=[(4,.int .i64 ((j:Nat):Int)),(5,.pointer (some ⟨g5,0,none⟩)),(28,.int .i64 ((j:Nat):Int)),(27,.int .i64 6),(26,.slice (some ⟨gr,0,none⟩) 6 cap),(3,.slice (some ⟨gr,0,none⟩) 6 cap)]) hF [38,39,44,45,46,47] rfl,st.pick [0,1] [] rfl rfl (by decide)⟩
     ·refine E.opvg hF (r_bin (hF.at 0 rfl) ev_c eg_scalar (bi_int (ic_eql (c:=false) (dec_ff hc16)) (by simp))) (wanted_by rfl rfl (hF.at 3 rfl) rfl) rfl rfl rfl fun a hF=>?_
      refine E.opvg hF (r_bin (hF.at 2 rfl) (hF.at 0 rfl) eg_bool (bb_neq (d:=false) (by rw[show decide ((smV (moD fd j)%12)=(smV (moD fd (j+1))%12))=false from decide_eq_false (by omega)];rfl))) (wanted_by rfl rfl (hF.at 4 rfl) rfl) rfl rfl rfl fun a hF=>?_
      refine E.opv hF (r_pick_f (hF.at 5 rfl) (hF.at 0 rfl)) rfl rfl rfl rfl fun a hF=>?_
      refine E.opv hF (r_move (hF.at 0 rfl)) rfl rfl rfl rfl fun a hF=>?_
      refine E.opvg hF (r_load (hF.at 32 rfl) (ld_all ty_MMO (st.bk 0 rfl) rfl)) (wanted_by rfl rfl (hF.at 0 rfl) rfl) rfl rfl rfl fun a hF=>?_
      refine S.callxg st hF (wanted_by rfl rfl (hF.at 1 rfl) rfl) (rgc k43 (map1 (hF.at 0 rfl))) (moLost_any (moD fd j) (moD fd (j+1)) (smV (moD fd j)%12) (smV (moD fd (j+1))%12) _ (by omega) (by omega)) rfl rfl rfl fun w19 a st hF=>?_
      by_cases hc20:0<loV (smV (moD fd j)%12) (smV (moD fd (j+1))%12)
      ·refine E.opvg hF (r_bin (hF.at 0 rfl) ev_c eg_scalar (bi_int (ic_gtr (c:=true) (dec_tt hc20)) (by simp))) (wanted_by rfl rfl (hF.at 2 rfl) rfl) rfl rfl rfl fun a hF=>?_
       refine E.opvg hF (r_move (hF.at 26 rfl)) (wanted_by rfl rfl (hF.at 3 rfl) rfl) rfl rfl rfl fun a hF=>?_
       refine E.opvg hF (r_bin (hF.at 0 rfl) ev_c eg_scalar (bi_int (ic_eql (c:=true) (dec_tt (by omega))) (by simp))) (wanted_by rfl rfl (hF.at 4 rfl) rfl) rfl rfl rfl fun a hF=>?_
       refine E.opvg hF (r_bin (hF.at 2 rfl) (hF.at 0 rfl) eg_bool (bb_neq (d:=false) rfl)) (wanted_by rfl rfl (hF.at 5 rfl) rfl) rfl rfl rfl fun a hF=>?_
       refine E.opv hF (r_pick_f (hF.at 6 rfl) (hF.at 0 rfl)) rfl rfl rfl rfl fun a hF=>?_
       refine E.nil ?_
       refine wp_cond_false (hF.at 0 rfl) ?_
       refine wp_skip ?_
       refine E.norm ?_
       exact⟨Fr.pick (L':=[(4,.int .i64 ((j:Nat):Int)),(5,.pointer (some ⟨g5,0,none⟩)),(28,.int .i64 ((j:Nat):Int)),(27,.int .i64 6),(26,.slice (some ⟨gr,0,none⟩) 6 cap),(3,.slice (some ⟨gr,0,none⟩) 6 cap)]) hF [38,39,44,45,46,47] rfl,st.pick [0,1] [] rfl rfl (by decide)⟩
      ·refine E.opvg hF (r_bin (hF.at 0 rfl) ev_c eg_scalar (bi_int (ic_gtr (c:=false) (dec_ff hc20)) (by simp))) (wanted_by rfl rfl (hF.at 2 rfl) rfl) rfl rfl rfl fun a hF=>?_
       refine E.opvg hF (r_move (hF.at 26 rfl)) (wanted_by rfl rfl (hF.at 3 rfl) rfl) rfl rfl rfl fun a hF=>?_
       refine E.opvg hF (r_bin (hF.at 0 rfl) ev_c eg_scalar (bi_int (ic_eql (c:=false) (dec_ff (by omega))) (by simp))) (wanted_by rfl rfl (hF.at 4 rfl) rfl) rfl rfl rfl fun a hF=>?_
       refine E.opvg hF (r_bin (hF.at 2 rfl) (hF.at 0 rfl) eg_bool (bb_neq (d:=false) rfl)) (wanted_by rfl rfl (hF.at 5 rfl) rfl) rfl rfl rfl fun a hF=>?_
       refine E.opv hF (r_pick_f (hF.at 6 rfl) (hF.at 0 rfl)) rfl rfl rfl rfl fun a hF=>?_
       refine E.nil ?_
       refine wp_cond_false (hF.at 0 rfl) ?_
       refine wp_skip ?_
       refine E.norm ?_
       exact⟨Fr.pick (L':=[(4,.int .i64 ((j:Nat):Int)),(5,.pointer (some ⟨g5,0,none⟩)),(28,.int .i64 ((j:Nat):Int)),(27,.int .i64 6),(26,.slice (some ⟨gr,0,none⟩) 6 cap),(3,.slice (some ⟨gr,0,none⟩) 6 cap)]) hF [38,39,44,45,46,47] rfl,st.pick [0,1] [] rfl rfl (by decide)⟩
    ·exact absurd (moD_comes hln.2.2 j) hc14
   ·rintro a w21 ⟨hF,st⟩
    refine wp_seq ?_
    by_cases hc22:0<((j:Nat):Int)
    ·by_cases hc23:decide ((smV (moD fd j)%12)=(smV (moD fd (j+1))%12))=true
     ·refine E.rg 30 mixed hF [70,71,72,73,74,75,76,77,78,79,80,81,82,83,84,85,86,87,88,89,90,91,92,93,94,95,96,97,98,99] [_,.ex (.bool true),.ex (.bool true),.ex (.pointer (some ⟨g5,0,none⟩)),.ex (.int .i64 (moD fd j)),.ex (.slice (some ⟨gr,0,none⟩) 6 cap),.ex (.int .i64 ((j:Nat):Int)),.ex (.int .i64 (((j:Nat):Int)-1)),.ex (.pointer (some ⟨gr,4*(j-1),none⟩)),.ex (.pointer (some ⟨gr,(4*(j-1)+1),none⟩)),.ex (.int .i64 (moD fd j)),.ex (.bool false),.ex (.bool false),.ex (.pointer (some ⟨g5,2,none⟩)),.ex (.int .i64 (smV (moD fd j)%12)),.ex (.slice (some ⟨gr,0,none⟩) 6 cap),.ex (.int .i64 ((j:Nat):Int)),.ex (.int .i64 (((j:Nat):Int)-1)),.ex (.pointer (some ⟨gr,4*(j-1),none⟩)),.ex (.pointer (some ⟨gr,(4*(j-1)+3),none⟩)),.ex (.int .i64 (smV (moD fd j)%12)),.ex (.bool false),.ex (.bool false),.ex (.bool false),.ex (.agg #[.int .i64 (moD fd j),.int .i64 (moD fd (j+1)),.int .i64 (smV (moD fd j)%12),.int .i64 (smV (moD fd (j+1))%12)]),.ex (.bool (decide ((smV (moD fd j)%12)=(smV (moD fd (j+1))%12)))),.ex (.bool (decide ((smV (moD fd j)%12)=(smV (moD fd (j+1))%12)))),.ex (.slice (some ⟨gr,0,none⟩) 6 cap),.ex (.int .i64 ((j:Nat):Int)),.ex (.int .i64 (((j:Nat):Int)-1))] (by decide+kernel) rfl rfl rfl ⟨rm 0 rfl,(by intro a' w' hF' hb hd;have e70:=sHe hd 0 70 rfl rfl rfl rfl;exact dv0 (r_bin e70 ev_c eg_scalar (bi_int (ic_gtr (c:=true) (dec_tt hc22)) (by simp))) rfl rfl rfl),(by intro a' w' hF' hb hd;have e71:=sHe hd 0 71 rfl rfl rfl rfl;exact dv0 (r_move e71) rfl rfl rfl),(by intro a' w' hF' hb hd;have e72:=sHe hd 0 72 rfl rfl rfl rfl;exact dv1 (wanted_by rfl rfl e72 rfl) (r_field (hF'.at 1 rfl) (fa_MMO_0 (p:=0) rfl)) rfl rfl),(by intro a' w' hF' hb hd;have e72:=sHe hd 1 72 rfl rfl rfl rfl;have e73:=sHe hd 0 73 rfl rfl rfl rfl;exact dv1 (wanted_by rfl rfl e72 rfl) (r_load e73 (ldb_i64 (v:= .int .i64 (moD fd j)) ((st.bk 0 rfl).below hb) rfl)) rfl rfl),(by intro a' w' hF' hb hd;have e72:=sHe hd 0 72 rfl rfl rfl rfl;exact dv1 (wanted_by rfl rfl e72 rfl) (r_move (hF'.at 5 rfl)) rfl rfl),(by intro a' w' hF' hb hd;have e72:=sHe hd 0 72 rfl rfl rfl rfl;exact dv1 (wanted_by rfl rfl e72 rfl) (r_move (hF'.at 0 rfl)) rfl rfl),(by intro a' w' hF' hb hd;have e72:=sHe hd 1 72 rfl rfl rfl rfl;have e76:=sHe hd 0 76 rfl rfl rfl rfl;exact dv1 (wanted_by rfl rfl e72 rfl) (r_bin e76 ev_c eg_scalar (ia_sub (by omega) (by omega))) rfl rfl),(by intro a' w' hF' hb hd;have e72:=sHe hd 2 72 rfl rfl rfl rfl;have e75:=sHe hd 0 75 rfl rfl rfl rfl;have e77:=sHe hd 1 77 rfl rfl rfl rfl;exact dv1 (wanted_by rfl rfl e72 rfl) (r_index e75 e77 (ix_mo (i:=(j-1)) (by omega) (by omega))) rfl rfl),(by intro a' w' hF' hb hd;have e72:=sHe hd 1 72 rfl rfl rfl rfl;have e78:=sHe hd 0 78 rfl rfl rfl rfl;exact dv1 (wanted_by rfl rfl e72 rfl) (r_field e78 (fa_MMO_1 (p:=(4*(j-1)+1)) rfl)) rfl rfl),(by intro a' w' hF' hb hd;have e72:=sHe hd 1 72 rfl rfl rfl rfl;have e79:=sHe hd 0 79 rfl rfl rfl rfl;exact dv1 (wanted_by rfl rfl e72 rfl) (r_load e79 (ldb_i64 (v:= .int .i64 (moD fd j)) ((st.bk 1 rfl).below hb) ((moR_cell1 fd more (k:=6) (j:=j) (f:=1) (by omega) (by omega) (by omega)).trans rfl))) rfl rfl),(by intro a' w' hF' hb hd;have e72:=sHe hd 2 72 rfl rfl rfl rfl;have e74:=sHe hd 0 74 rfl rfl rfl rfl;have e80:=sHe hd 1 80 rfl rfl rfl rfl;exact dv1 (wanted_by rfl rfl e72 rfl) (r_bin e74 e80 eg_scalar (bi_int (ic_neq (c:=false) (by simp)) (by simp))) rfl rfl),(by intro a' w' hF' hb hd;have e72:=sHe hd 1 72 rfl rfl rfl rfl;have e81:=sHe hd 0 81 rfl rfl rfl rfl;exact dv1 (wanted_by rfl rfl e72 rfl) (r_move e81) rfl rfl),(by intro a' w' hF' hb hd;have e82:=sHe hd 0 82 rfl rfl rfl rfl;exact dv1 (wanted_by rfl rfl e82 rfl) (r_field (hF'.at 1 rfl) (fa_MMO_2 (p:=2) rfl)) rfl rfl),(by intro a' w' hF' hb hd;have e82:=sHe hd 1 82 rfl rfl rfl rfl;have e83:=sHe hd 0 83 rfl rfl rfl rfl;exact dv1 (wanted_by rfl rfl e82 rfl) (r_load e83 (ldb_int (v:= .int .i64 (smV (moD fd j)%12)) ((st.bk 0 rfl).below hb) rfl)) rfl rfl),(by intro a' w' hF' hb hd;have e82:=sHe hd 0 82 rfl rfl rfl rfl;exact dv1 (wanted_by rfl rfl e82 rfl) (r_move (hF'.at 5 rfl)) rfl rfl),(by intro a' w' hF' hb hd;have e82:=sHe hd 0 82 rfl rfl rfl rfl;exact dv1 (wanted_by rfl rfl e82 rfl) (r_move (hF'.at 0 rfl)) rfl rfl),(by intro a' w' hF' hb hd;have e82:=sHe hd 1 82 rfl rfl rfl rfl;have e86:=sHe hd 0 86 rfl rfl rfl rfl;exact dv1 (wanted_by rfl rfl e82 rfl) (r_bin e86 ev_c eg_scalar (ia_sub (by omega) (by omega))) rfl rfl),(by intro a' w' hF' hb hd;have e82:=sHe hd 2 82 rfl rfl rfl rfl;have e85:=sHe hd 0 85 rfl rfl rfl rfl;have e87:=sHe hd 1 87 rfl rfl rfl rfl;exact dv1 (wanted_by rfl rfl e82 rfl) (r_index e85 e87 (ix_mo (i:=(j-1)) (by omega) (by omega))) rfl rfl),(by intro a' w' hF' hb hd;have e82:=sHe hd 1 82 rfl rfl rfl rfl;have e88:=sHe hd 0 88 rfl rfl rfl rfl;exact dv1 (wanted_by rfl rfl e82 rfl) (r_field e88 (fa_MMO_3 (p:=(4*(j-1)+3)) rfl)) rfl rfl),(by intro a' w' hF' hb hd;have e82:=sHe hd 1 82 rfl rfl rfl rfl;have e89:=sHe hd 0 89 rfl rfl rfl rfl;exact dv1 (wanted_by rfl rfl e82 rfl) (r_load e89 (ldb_int (v:= .int .i64 (smV (moD fd j)%12)) ((st.bk 1 rfl).below hb) ((moR_cell1 fd more (k:=6) (j:=j) (f:=3) (by omega) (by omega) (by omega)).trans rfl))) rfl rfl),(by intro a' w' hF' hb hd;have e82:=sHe hd 2 82 rfl rfl rfl rfl;have e84:=sHe hd 0 84 rfl rfl rfl rfl;have e90:=sHe hd 1 90 rfl rfl rfl rfl;exact dv1 (wanted_by rfl rfl e82 rfl) (r_bin e84 e90 eg_scalar (bi_int (ic_neq (c:=false) (by simp)) (by simp))) rfl rfl),(by intro a' w' hF' hb hd;have e72:=sHe hd 2 72 rfl rfl rfl rfl;have e82:=sHe hd 0 82 rfl rfl rfl rfl;have e91:=sHe hd 1 91 rfl rfl rfl rfl;exact dv1 (wanted_by rfl rfl e72 rfl) (r_pick_f e82 e91) rfl rfl),(by intro a' w' hF' hb hd;have e72:=sHe hd 2 72 rfl rfl rfl rfl;have e92:=sHe hd 0 92 rfl rfl rfl rfl;exact dv1 (wanted_by rfl rfl e72 rfl) (r_move e92) rfl rfl),(by intro a' w' hF' hb hd;have e93:=sHe hd 0 93 rfl rfl rfl rfl;exact dv1 (wanted_by rfl rfl e93 rfl) (r_load (hF'.at 1 rfl) (ld_all ty_MMO ((st.bk 0 rfl).below hb) rfl)) rfl rfl),(by intro a' w' hF' hb hd;have e93:=sHe hd 1 93 rfl rfl rfl rfl;have e94:=sHe hd 0 94 rfl rfl rfl rfl;exact dcx1 (wanted_by rfl rfl e93 rfl) (r_call Tryz.func42 en42.1 en42.2 (map1 e94)) (moLeap_any (moD fd j) (moD fd (j+1)) (smV (moD fd j)%12) (smV (moD fd (j+1))%12) _) (fun _=>rfl) rfl),(by intro a' w' hF' hb hd;have e93:=sHe hd 2 93 rfl rfl rfl rfl;have e95:=sHe hd 0 95 rfl rfl rfl rfl;exact dv1 (wanted_by rfl rfl e93 rfl) (r_move e95) rfl rfl),(by intro a' w' hF' hb hd;have e96:=sHe hd 0 96 rfl rfl rfl rfl;exact dv1 (wanted_by rfl rfl (Eq.trans e96 (congrArg Value.bool hc23)) rfl) (r_move (hF'.at 5 rfl)) rfl rfl),(by intro a' w' hF' hb hd;have e96:=sHe hd 0 96 rfl rfl rfl rfl;exact dv1 (wanted_by rfl rfl (Eq.trans e96 (congrArg Value.bool hc23)) rfl) (r_move (hF'.at 0 rfl)) rfl rfl),(by intro a' w' hF' hb hd;have e96:=sHe hd 1 96 rfl rfl rfl rfl;have e98:=sHe hd 0 98 rfl rfl rfl rfl;exact dv1 (wanted_by rfl rfl (Eq.trans e96 (congrArg Value.bool hc23)) rfl) (r_bin e98 ev_c eg_scalar (ia_sub (by omega) (by omega))) rfl rfl),trivial⟩ ?_
      intro a w24 hF bb hall
      replace st:=st.to bb
      replace hF:=rE hall hF 2 rfl rfl
      replace hF:=rE hall hF 23 rfl rfl
      replace hF:=rE hall hF 26 rfl rfl
      replace hF:=rE hall hF 27 rfl rfl
      replace hF:=rE hall hF 29 rfl rfl
      clear hall bb
      refine E.opvg hF (r_index (hF.at 1 rfl) (hF.at 0 rfl) (ix_mo (i:=(j-1)) (by omega) (by omega))) (wanted_by rfl rfl (Eq.trans (hF.at 2 rfl) (congrArg Value.bool hc23)) rfl) rfl rfl rfl fun a hF=>?_
      refine E.opvg hF (r_load (hF.at 0 rfl) (ldb_MMO (vs:=[.int .i64 (moD fd (j-1)),.int .i64 (moD fd j),.int .i64 (smV (moD fd (j-1))%12),.int .i64 (smV (moD fd j)%12)]) (st.bk 1 rfl) (moR_at1 _ _ (by omega) (by omega)) rfl)) (wanted_by rfl rfl (Eq.trans (hF.at 3 rfl) (congrArg Value.bool hc23)) rfl) rfl rfl rfl fun a hF=>?_
      refine S.callxg st hF (wanted_by rfl rfl (Eq.trans (hF.at 4 rfl) (congrArg Value.bool hc23)) rfl) (rgc k42 (map1 (hF.at 0 rfl))) (moLeap_any (moD fd (j-1)) (moD fd j) (smV (moD fd (j-1))%12) (smV (moD fd j)%12) _) rfl rfl rfl fun w25 a st hF=>?_
      refine E.opvg hF (r_pick_t (Eq.trans (hF.at 5 rfl) (congrArg Value.bool hc23)) (hF.at 0 rfl)) (wanted_by rfl rfl (hF.at 6 rfl) rfl) rfl rfl rfl fun a hF=>?_
      refine E.opvg hF (r_pick_f (hF.at 7 rfl) (hF.at 0 rfl)) (wanted_by rfl rfl (hF.at 8 rfl) rfl) rfl rfl rfl fun a hF=>?_
      refine E.opv hF (r_pick_t (hF.at 9 rfl) (hF.at 0 rfl)) rfl rfl rfl rfl fun a hF=>?_
      refine E.nil ?_
      by_cases hc26:decide ((smV (moD fd (j-1))%12)=(smV (moD fd j)%12))=true
      ·exfalso
       have hd1:=of_decide_eq_true hc23
       have hd2:=of_decide_eq_true hc26
       omega
      ·refine wp_cond_false (Eq.trans (hF.at 0 rfl) (congrArg Value.bool (eq_false_of_ne_true hc26))) ?_
       refine wp_skip ?_
       refine E.blk ?_
       refine E.norm ?_
       refine E.seq ?_
       refine E.opv hF (r_bin (hF.at 13 rfl) ev_c eg_scalar (ia_add (by omega) (by omega))) rfl rfl rfl rfl fun a hF=>?_
       refine E.opset (L':=[(28,.int .i64 (((j:Nat):Int)+1)),(106,.int .i64 (((j:Nat):Int)+1)),(105,.bool (decide ((smV (moD fd (j-1))%12)=(smV (moD fd j)%12)))),(104,.bool (decide ((smV (moD fd (j-1))%12)=(smV (moD fd j)%12)))),(103,.bool (decide ((smV (moD fd (j-1))%12)=(smV (moD fd j)%12)))),(102,.bool (decide ((smV (moD fd (j-1))%12)=(smV (moD fd j)%12)))),(101,.agg #[.int .i64 (moD fd (j-1)),.int .i64 (moD fd j),.int .i64 (smV (moD fd (j-1))%12),.int .i64 (smV (moD fd j)%12)]),(100,.pointer (some ⟨gr,4*(j-1),none⟩)),(99,.int .i64 (((j:Nat):Int)-1)),(97,.slice (some ⟨gr,0,none⟩) 6 cap),(96,.bool (decide ((smV (moD fd j)%12)=(smV (moD fd (j+1))%12)))),(93,.bool false),(72,.bool true),(4,.int .i64 ((j:Nat):Int)),(5,.pointer (some ⟨g5,0,none⟩)),(27,.int .i64 6),(26,.slice (some ⟨gr,0,none⟩) 6 cap),(3,.slice (some ⟨gr,0,none⟩) 6 cap)]) hF (r_move (hF.at 0 rfl)) rfl rfl rfl rfl fun a hF=>?_
       refine E.nil0 ?_
       refine E.norm ?_
       replace hF:Fr 132 a [(28,.int .i64 ((j+1:Nat):Int)),(106,.int .i64 (((j:Nat):Int)+1)),(105,.bool (decide ((smV (moD fd (j-1))%12)=(smV (moD fd j)%12)))),(104,.bool (decide ((smV (moD fd (j-1))%12)=(smV (moD fd j)%12)))),(103,.bool (decide ((smV (moD fd (j-1))%12)=(smV (moD fd j)%12)))),(102,.bool (decide ((smV (moD fd (j-1))%12)=(smV (moD fd j)%12)))),(101,.agg #[.int .i64 (moD fd (j-1)),.int .i64 (moD fd j),.int .i64 (smV (moD fd (j-1))%12),.int .i64 (smV (moD fd j)%12)]),(100,.pointer (some ⟨gr,4*(j-1),none⟩)),(99,.int .i64 (((j:Nat):Int)-1)),(97,.slice (some ⟨gr,0,none⟩) 6 cap),(96,.bool (decide ((smV (moD fd j)%12)=(smV (moD fd (j+1))%12)))),(93,.bool false),(72,.bool true),(4,.int .i64 ((j:Nat):Int)),(5,.pointer (some ⟨g5,0,none⟩)),(27,.int .i64 6),(26,.slice (some ⟨gr,0,none⟩) 6 cap),(3,.slice (some ⟨gr,0,none⟩) 6 cap)]:=by rw[show((j+1:Nat):Int)=((j:Nat):Int)+1 from by omega];exact hF
       exact⟨(6-(j+1)),by omega,⟨(j+1),(by omega),Fr.pick (L':=[(28,.int .i64 ((j+1:Nat):Int)),(27,.int .i64 6),(26,.slice (some ⟨gr,0,none⟩) 6 cap),(3,.slice (some ⟨gr,0,none⟩) 6 cap)]) hF [0,15,16,17] rfl,st.pick [1] [] rfl rfl (by decide),rfl⟩⟩
     ·refine E.rg 30 mixed hF [70,71,72,73,74,75,76,77,78,79,80,81,82,83,84,85,86,87,88,89,90,91,92,93,94,95,96,97,98,99] [_,.ex (.bool true),.ex (.bool true),.ex (.pointer (some ⟨g5,0,none⟩)),.ex (.int .i64 (moD fd j)),.ex (.slice (some ⟨gr,0,none⟩) 6 cap),.ex (.int .i64 ((j:Nat):Int)),.ex (.int .i64 (((j:Nat):Int)-1)),.ex (.pointer (some ⟨gr,4*(j-1),none⟩)),.ex (.pointer (some ⟨gr,(4*(j-1)+1),none⟩)),.ex (.int .i64 (moD fd j)),.ex (.bool false),.ex (.bool false),.ex (.pointer (some ⟨g5,2,none⟩)),.ex (.int .i64 (smV (moD fd j)%12)),.ex (.slice (some ⟨gr,0,none⟩) 6 cap),.ex (.int .i64 ((j:Nat):Int)),.ex (.int .i64 (((j:Nat):Int)-1)),.ex (.pointer (some ⟨gr,4*(j-1),none⟩)),.ex (.pointer (some ⟨gr,(4*(j-1)+3),none⟩)),.ex (.int .i64 (smV (moD fd j)%12)),.ex (.bool false),.ex (.bool false),.ex (.bool false),.ex (.agg #[.int .i64 (moD fd j),.int .i64 (moD fd (j+1)),.int .i64 (smV (moD fd j)%12),.int .i64 (smV (moD fd (j+1))%12)]),.ex (.bool (decide ((smV (moD fd j)%12)=(smV (moD fd (j+1))%12)))),.ex (.bool (decide ((smV (moD fd j)%12)=(smV (moD fd (j+1))%12)))),.ex undef,.ex undef,.ex undef] (by decide+kernel) rfl rfl rfl ⟨rm 0 rfl,(by intro a' w' hF' hb hd;have e70:=sHe hd 0 70 rfl rfl rfl rfl;exact dv0 (r_bin e70 ev_c eg_scalar (bi_int (ic_gtr (c:=true) (dec_tt hc22)) (by simp))) rfl rfl rfl),(by intro a' w' hF' hb hd;have e71:=sHe hd 0 71 rfl rfl rfl rfl;exact dv0 (r_move e71) rfl rfl rfl),(by intro a' w' hF' hb hd;have e72:=sHe hd 0 72 rfl rfl rfl rfl;exact dv1 (wanted_by rfl rfl e72 rfl) (r_field (hF'.at 1 rfl) (fa_MMO_0 (p:=0) rfl)) rfl rfl),(by intro a' w' hF' hb hd;have e72:=sHe hd 1 72 rfl rfl rfl rfl;have e73:=sHe hd 0 73 rfl rfl rfl rfl;exact dv1 (wanted_by rfl rfl e72 rfl) (r_load e73 (ldb_i64 (v:= .int .i64 (moD fd j)) ((st.bk 0 rfl).below hb) rfl)) rfl rfl),(by intro a' w' hF' hb hd;have e72:=sHe hd 0 72 rfl rfl rfl rfl;exact dv1 (wanted_by rfl rfl e72 rfl) (r_move (hF'.at 5 rfl)) rfl rfl),(by intro a' w' hF' hb hd;have e72:=sHe hd 0 72 rfl rfl rfl rfl;exact dv1 (wanted_by rfl rfl e72 rfl) (r_move (hF'.at 0 rfl)) rfl rfl),(by intro a' w' hF' hb hd;have e72:=sHe hd 1 72 rfl rfl rfl rfl;have e76:=sHe hd 0 76 rfl rfl rfl rfl;exact dv1 (wanted_by rfl rfl e72 rfl) (r_bin e76 ev_c eg_scalar (ia_sub (by omega) (by omega))) rfl rfl),(by intro a' w' hF' hb hd;have e72:=sHe hd 2 72 rfl rfl rfl rfl;have e75:=sHe hd 0 75 rfl rfl rfl rfl;have e77:=sHe hd 1 77 rfl rfl rfl rfl;exact dv1 (wanted_by rfl rfl e72 rfl) (r_index e75 e77 (ix_mo (i:=(j-1)) (by omega) (by omega))) rfl rfl),(by intro a' w' hF' hb hd;have e72:=sHe hd 1 72 rfl rfl rfl rfl;have e78:=sHe hd 0 78 rfl rfl rfl rfl;exact dv1 (wanted_by rfl rfl e72 rfl) (r_field e78 (fa_MMO_1 (p:=(4*(j-1)+1)) rfl)) rfl rfl),(by intro a' w' hF' hb hd;have e72:=sHe hd 1 72 rfl rfl rfl rfl;have e79:=sHe hd 0 79 rfl rfl rfl rfl;exact dv1 (wanted_by rfl rfl e72 rfl) (r_load e79 (ldb_i64 (v:= .int .i64 (moD fd j)) ((st.bk 1 rfl).below hb) ((moR_cell1 fd more (k:=6) (j:=j) (f:=1) (by omega) (by omega) (by omega)).trans rfl))) rfl rfl),(by intro a' w' hF' hb hd;have e72:=sHe hd 2 72 rfl rfl rfl rfl;have e74:=sHe hd 0 74 rfl rfl rfl rfl;have e80:=sHe hd 1 80 rfl rfl rfl rfl;exact dv1 (wanted_by rfl rfl e72 rfl) (r_bin e74 e80 eg_scalar (bi_int (ic_neq (c:=false) (by simp)) (by simp))) rfl rfl),(by intro a' w' hF' hb hd;have e72:=sHe hd 1 72 rfl rfl rfl rfl;have e81:=sHe hd 0 81 rfl rfl rfl rfl;exact dv1 (wanted_by rfl rfl e72 rfl) (r_move e81) rfl rfl),(by intro a' w' hF' hb hd;have e82:=sHe hd 0 82 rfl rfl rfl rfl;exact dv1 (wanted_by rfl rfl e82 rfl) (r_field (hF'.at 1 rfl) (fa_MMO_2 (p:=2) rfl)) rfl rfl),(by intro a' w' hF' hb hd;have e82:=sHe hd 1 82 rfl rfl rfl rfl;have e83:=sHe hd 0 83 rfl rfl rfl rfl;exact dv1 (wanted_by rfl rfl e82 rfl) (r_load e83 (ldb_int (v:= .int .i64 (smV (moD fd j)%12)) ((st.bk 0 rfl).below hb) rfl)) rfl rfl),(by intro a' w' hF' hb hd;have e82:=sHe hd 0 82 rfl rfl rfl rfl;exact dv1 (wanted_by rfl rfl e82 rfl) (r_move (hF'.at 5 rfl)) rfl rfl),(by intro a' w' hF' hb hd;have e82:=sHe hd 0 82 rfl rfl rfl rfl;exact dv1 (wanted_by rfl rfl e82 rfl) (r_move (hF'.at 0 rfl)) rfl rfl),(by intro a' w' hF' hb hd;have e82:=sHe hd 1 82 rfl rfl rfl rfl;have e86:=sHe hd 0 86 rfl rfl rfl rfl;exact dv1 (wanted_by rfl rfl e82 rfl) (r_bin e86 ev_c eg_scalar (ia_sub (by omega) (by omega))) rfl rfl),(by intro a' w' hF' hb hd;have e82:=sHe hd 2 82 rfl rfl rfl rfl;have e85:=sHe hd 0 85 rfl rfl rfl rfl;have e87:=sHe hd 1 87 rfl rfl rfl rfl;exact dv1 (wanted_by rfl rfl e82 rfl) (r_index e85 e87 (ix_mo (i:=(j-1)) (by omega) (by omega))) rfl rfl),(by intro a' w' hF' hb hd;have e82:=sHe hd 1 82 rfl rfl rfl rfl;have e88:=sHe hd 0 88 rfl rfl rfl rfl;exact dv1 (wanted_by rfl rfl e82 rfl) (r_field e88 (fa_MMO_3 (p:=(4*(j-1)+3)) rfl)) rfl rfl),(by intro a' w' hF' hb hd;have e82:=sHe hd 1 82 rfl rfl rfl rfl;have e89:=sHe hd 0 89 rfl rfl rfl rfl;exact dv1 (wanted_by rfl rfl e82 rfl) (r_load e89 (ldb_int (v:= .int .i64 (smV (moD fd j)%12)) ((st.bk 1 rfl).below hb) ((moR_cell1 fd more (k:=6) (j:=j) (f:=3) (by omega) (by omega) (by omega)).trans rfl))) rfl rfl),(by intro a' w' hF' hb hd;have e82:=sHe hd 2 82 rfl rfl rfl rfl;have e84:=sHe hd 0 84 rfl rfl rfl rfl;have e90:=sHe hd 1 90 rfl rfl rfl rfl;exact dv1 (wanted_by rfl rfl e82 rfl) (r_bin e84 e90 eg_scalar (bi_int (ic_neq (c:=false) (by simp)) (by simp))) rfl rfl),(by intro a' w' hF' hb hd;have e72:=sHe hd 2 72 rfl rfl rfl rfl;have e82:=sHe hd 0 82 rfl rfl rfl rfl;have e91:=sHe hd 1 91 rfl rfl rfl rfl;exact dv1 (wanted_by rfl rfl e72 rfl) (r_pick_f e82 e91) rfl rfl),(by intro a' w' hF' hb hd;have e72:=sHe hd 2 72 rfl rfl rfl rfl;have e92:=sHe hd 0 92 rfl rfl rfl rfl;exact dv1 (wanted_by rfl rfl e72 rfl) (r_move e92) rfl rfl),(by intro a' w' hF' hb hd;have e93:=sHe hd 0 93 rfl rfl rfl rfl;exact dv1 (wanted_by rfl rfl e93 rfl) (r_load (hF'.at 1 rfl) (ld_all ty_MMO ((st.bk 0 rfl).below hb) rfl)) rfl rfl),(by intro a' w' hF' hb hd;have e93:=sHe hd 1 93 rfl rfl rfl rfl;have e94:=sHe hd 0 94 rfl rfl rfl rfl;exact dcx1 (wanted_by rfl rfl e93 rfl) (r_call Tryz.func42 en42.1 en42.2 (map1 e94)) (moLeap_any (moD fd j) (moD fd (j+1)) (smV (moD fd j)%12) (smV (moD fd (j+1))%12) _) (fun _=>rfl) rfl),(by intro a' w' hF' hb hd;have e93:=sHe hd 2 93 rfl rfl rfl rfl;have e95:=sHe hd 0 95 rfl rfl rfl rfl;exact dv1 (wanted_by rfl rfl e93 rfl) (r_move e95) rfl rfl),(by intro a' w' hF' hb hd;have e96:=sHe hd 0 96 rfl rfl rfl rfl;exact if_not (wanted_by rfl rfl (Eq.trans e96 (congrArg Value.bool (eq_false_of_ne_true hc23))) rfl) ⟨rfl,by decide⟩),(by intro a' w' hF' hb hd;have e96:=sHe hd 0 96 rfl rfl rfl rfl;exact if_not (wanted_by rfl rfl (Eq.trans e96 (congrArg Value.bool (eq_false_of_ne_true hc23))) rfl) ⟨rfl,by decide⟩),(by intro a' w' hF' hb hd;have e96:=sHe hd 1 96 rfl rfl rfl rfl;exact if_not (wanted_by rfl rfl (Eq.trans e96 (congrArg Value.bool (eq_false_of_ne_true hc23))) rfl) ⟨rfl,by decide⟩),trivial⟩ ?_
      intro a w27 hF bb hall
      replace st:=st.to bb
      replace hF:=rE hall hF 2 rfl rfl
      replace hF:=rE hall hF 23 rfl rfl
      replace hF:=rE hall hF 26 rfl rfl
      replace hF:=rE hall hF 27 rfl rfl
      replace hF:=rE hall hF 29 rfl rfl
      clear hall bb
      refine E.unwanted hF (wanted_by rfl rfl (Eq.trans (hF.at 2 rfl) (congrArg Value.bool (eq_false_of_ne_true hc23))) rfl) rfl rfl rfl fun a hF=>?_
      refine E.unwanted hF (wanted_by rfl rfl (Eq.trans (hF.at 3 rfl) (congrArg Value.bool (eq_false_of_ne_true hc23))) rfl) rfl rfl rfl fun a hF=>?_
      refine E.unwanted hF (wanted_by rfl rfl (Eq.trans (hF.at 4 rfl) (congrArg Value.bool (eq_false_of_ne_true hc23))) rfl) rfl rfl rfl fun a hF=>?_
      refine E.opvg hF (r_pick_f (Eq.trans (hF.at 5 rfl) (congrArg Value.bool (eq_false_of_ne_true hc23))) ev_c) (wanted_by rfl rfl (hF.at 6 rfl) rfl) rfl rfl rfl fun a hF=>?_
      refine E.opvg hF (r_pick_f (hF.at 7 rfl) (hF.at 0 rfl)) (wanted_by rfl rfl (hF.at 8 rfl) rfl) rfl rfl rfl fun a hF=>?_
      refine E.opv hF (r_pick_t (hF.at 9 rfl) (hF.at 0 rfl)) rfl rfl rfl rfl fun a hF=>?_
      refine E.nil ?_
      refine wp_cond_false (hF.at 0 rfl) ?_
      refine wp_skip ?_
      refine E.blk ?_
      refine E.norm ?_
      refine E.seq ?_
      refine E.opv hF (r_bin (hF.at 13 rfl) ev_c eg_scalar (ia_add (by omega) (by omega))) rfl rfl rfl rfl fun a hF=>?_
      refine E.opset (L':=[(28,.int .i64 (((j:Nat):Int)+1)),(106,.int .i64 (((j:Nat):Int)+1)),(105,.bool false),(104,.bool false),(103,.bool false),(102,undef),(101,undef),(100,undef),(99,undef),(97,undef),(96,.bool (decide ((smV (moD fd j)%12)=(smV (moD fd (j+1))%12)))),(93,.bool false),(72,.bool true),(4,.int .i64 ((j:Nat):Int)),(5,.pointer (some ⟨g5,0,none⟩)),(27,.int .i64 6),(26,.slice (some ⟨gr,0,none⟩) 6 cap),(3,.slice (some ⟨gr,0,none⟩) 6 cap)]) hF (r_move (hF.at 0 rfl)) rfl rfl rfl rfl fun a hF=>?_
      refine E.nil0 ?_
      refine E.norm ?_
      replace hF:Fr 132 a [(28,.int .i64 ((j+1:Nat):Int)),(106,.int .i64 (((j:Nat):Int)+1)),(105,.bool false),(104,.bool false),(103,.bool false),(102,undef),(101,undef),(100,undef),(99,undef),(97,undef),(96,.bool (decide ((smV (moD fd j)%12)=(smV (moD fd (j+1))%12)))),(93,.bool false),(72,.bool true),(4,.int .i64 ((j:Nat):Int)),(5,.pointer (some ⟨g5,0,none⟩)),(27,.int .i64 6),(26,.slice (some ⟨gr,0,none⟩) 6 cap),(3,.slice (some ⟨gr,0,none⟩) 6 cap)]:=by rw[show((j+1:Nat):Int)=((j:Nat):Int)+1 from by omega];exact hF
      exact⟨(6-(j+1)),by omega,⟨(j+1),(by omega),Fr.pick (L':=[(28,.int .i64 ((j+1:Nat):Int)),(27,.int .i64 6),(26,.slice (some ⟨gr,0,none⟩) 6 cap),(3,.slice (some ⟨gr,0,none⟩) 6 cap)]) hF [0,15,16,17] rfl,st.pick [1] [] rfl rfl (by decide),rfl⟩⟩
    ·refine E.rg 30 mixed hF [70,71,72,73,74,75,76,77,78,79,80,81,82,83,84,85,86,87,88,89,90,91,92,93,94,95,96,97,98,99] [_,.ex (.bool false),.ex (.bool false),.ex undef,.ex undef,.ex undef,.ex undef,.ex undef,.ex undef,.ex undef,.ex undef,.ex undef,.ex undef,.ex undef,.ex undef,.ex undef,.ex undef,.ex undef,.ex undef,.ex undef,.ex undef,.ex undef,.ex undef,.ex undef,.ex undef,.ex undef,.ex undef,.ex undef,.ex undef,.ex undef] (by decide+kernel) rfl rfl rfl ⟨rm 0 rfl,(by intro a' w' hF' hb hd;have e70:=sHe hd 0 70 rfl rfl rfl rfl;exact dv0 (r_bin e70 ev_c eg_scalar (bi_int (ic_gtr (c:=false) (dec_ff hc22)) (by simp))) rfl rfl rfl),(by intro a' w' hF' hb hd;have e71:=sHe hd 0 71 rfl rfl rfl rfl;exact dv0 (r_move e71) rfl rfl rfl),(by intro a' w' hF' hb hd;have e72:=sHe hd 0 72 rfl rfl rfl rfl;exact if_not (wanted_by rfl rfl e72 rfl) ⟨rfl,by decide⟩),(by intro a' w' hF' hb hd;have e72:=sHe hd 1 72 rfl rfl rfl rfl;exact if_not (wanted_by rfl rfl e72 rfl) ⟨rfl,by decide⟩),(by intro a' w' hF' hb hd;have e72:=sHe hd 0 72 rfl rfl rfl rfl;exact if_not (wanted_by rfl rfl e72 rfl) ⟨rfl,by decide⟩),(by intro a' w' hF' hb hd;have e72:=sHe hd 0 72 rfl rfl rfl rfl;exact if_not (wanted_by rfl rfl e72 rfl) ⟨rfl,by decide⟩),(by intro a' w' hF' hb hd;have e72:=sHe hd 1 72 rfl rfl rfl rfl;exact if_not (wanted_by rfl rfl e72 rfl) ⟨rfl,by decide⟩),(by intro a' w' hF' hb hd;have e72:=sHe hd 2 72 rfl rfl rfl rfl;exact if_not (wanted_by rfl rfl e72 rfl) ⟨rfl,by decide⟩),(by intro a' w' hF' hb hd;have e72:=sHe hd 1 72 rfl rfl rfl rfl;exact if_not (wanted_by rfl rfl e72 rfl) ⟨rfl,by decide⟩),(by intro a' w' hF' hb hd;have e72:=sHe hd 1 72 rfl rfl rfl rfl;exact if_not (wanted_by rfl rfl e72 rfl) ⟨rfl,by decide⟩),(by intro a' w' hF' hb hd;have e72:=sHe hd 2 72 rfl rfl rfl rfl;exact if_not (wanted_by rfl rfl e72 rfl) ⟨rfl,by decide⟩),(by intro a' w' hF' hb hd;have e72:=sHe hd 1 72 rfl rfl rfl rfl;exact if_not (wanted_by rfl rfl e72 rfl) ⟨rfl,by decide⟩),(by intro a' w' hF' hb hd;have e82:=sHe hd 0 82 rfl rfl rfl rfl;exact if_not (wanted_undef rfl rfl e82) ⟨rfl,by decide⟩),(by intro a' w' hF' hb hd;have e82:=sHe hd 1 82 rfl rfl rfl rfl;exact if_not (wanted_undef rfl rfl e82) ⟨rfl,by decide⟩),(by intro a' w' hF' hb hd;have e82:=sHe hd 0 82 rfl rfl rfl rfl;exact if_not (wanted_undef rfl rfl e82) ⟨rfl,by decide⟩),(by intro a' w' hF' hb hd;have e82:=sHe hd 0 82 rfl rfl rfl rfl;exact if_not (wanted_undef rfl rfl e82) ⟨rfl,by decide⟩),(by intro a' w' hF' hb hd;have e82:=sHe hd 1 82 rfl rfl rfl rfl;exact if_not (wanted_undef rfl rfl e82) ⟨rfl,by decide⟩),(by intro a' w' hF' hb hd;have e82:=sHe hd 2 82 rfl rfl rfl rfl;exact if_not (wanted_undef rfl rfl e82) ⟨rfl,by decide⟩),(by intro a' w' hF' hb hd;have e82:=sHe hd 1 82 rfl rfl rfl rfl;exact if_not (wanted_undef rfl rfl e82) ⟨rfl,by decide⟩),(by intro a' w' hF' hb hd;have e82:=sHe hd 1 82 rfl rfl rfl rfl;exact if_not (wanted_undef rfl rfl e82) ⟨rfl,by decide⟩),(by intro a' w' hF' hb hd;have e82:=sHe hd 2 82 rfl rfl rfl rfl;exact if_not (wanted_undef rfl rfl e82) ⟨rfl,by decide⟩),(by intro a' w' hF' hb hd;have e72:=sHe hd 2 72 rfl rfl rfl rfl;exact if_not (wanted_by rfl rfl e72 rfl) ⟨rfl,by decide⟩),(by intro a' w' hF' hb hd;have e72:=sHe hd 2 72 rfl rfl rfl rfl;exact if_not (wanted_by rfl rfl e72 rfl) ⟨rfl,by decide⟩),(by intro a' w' hF' hb hd;have e93:=sHe hd 0 93 rfl rfl rfl rfl;exact if_not (wanted_undef rfl rfl e93) ⟨rfl,by decide⟩),(by intro a' w' hF' hb hd;have e93:=sHe hd 1 93 rfl rfl rfl rfl;exact if_not (wanted_undef rfl rfl e93) ⟨rfl,by decide⟩),(by intro a' w' hF' hb hd;have e93:=sHe hd 2 93 rfl rfl rfl rfl;exact if_not (wanted_undef rfl rfl e93) ⟨rfl,by decide⟩),(by intro a' w' hF' hb hd;have e96:=sHe hd 0 96 rfl rfl rfl rfl;exact if_not (wanted_undef rfl rfl e96) ⟨rfl,by decide⟩),(by intro a' w' hF' hb hd;have e96:=sHe hd 0 96 rfl rfl rfl rfl;exact if_not (wanted_undef rfl rfl e96) ⟨rfl,by decide⟩),(by intro a' w' hF' hb hd;have e96:=sHe hd 1 96 rfl rfl rfl rfl;exact if_not (wanted_undef rfl rfl e96) ⟨rfl,by decide⟩),trivial⟩ ?_
     intro a w28 hF bb hall
     replace st:=st.to bb
     replace hF:=rE hall hF 2 rfl rfl
     replace hF:=rE hall hF 23 rfl rfl
     replace hF:=rE hall hF 26 rfl rfl
     replace hF:=rE hall hF 27 rfl rfl
     replace hF:=rE hall hF 29 rfl rfl
     clear hall bb
     refine E.unwanted hF (wanted_undef rfl rfl (hF.at 2 rfl)) rfl rfl rfl fun a hF=>?_
     refine E.unwanted hF (wanted_undef rfl rfl (hF.at 3 rfl)) rfl rfl rfl fun a hF=>?_
     refine E.unwanted hF (wanted_undef rfl rfl (hF.at 4 rfl)) rfl rfl rfl fun a hF=>?_
     refine E.unwanted hF (wanted_undef rfl rfl (hF.at 6 rfl)) rfl rfl rfl fun a hF=>?_
     refine E.unwanted hF (wanted_by rfl rfl (hF.at 8 rfl) rfl) rfl rfl rfl fun a hF=>?_
     refine E.opv hF (r_pick_f (hF.at 9 rfl) ev_c) rfl rfl rfl rfl fun a hF=>?_
     refine E.nil ?_
     refine wp_cond_false (hF.at 0 rfl) ?_
     refine wp_skip ?_
     refine E.blk ?_
     refine E.norm ?_
     refine E.seq ?_
     refine E.opv hF (r_bin (hF.at 13 rfl) ev_c eg_scalar (ia_add (by omega) (by omega))) rfl rfl rfl rfl fun a hF=>?_
     refine E.opset (L':=[(28,.int .i64 (((j:Nat):Int)+1)),(106,.int .i64 (((j:Nat):Int)+1)),(105,.bool false),(104,undef),(103,undef),(102,undef),(101,undef),(100,undef),(99,undef),(97,undef),(96,undef),(93,undef),(72,.bool false),(4,.int .i64 ((j:Nat):Int)),(5,.pointer (some ⟨g5,0,none⟩)),(27,.int .i64 6),(26,.slice (some ⟨gr,0,none⟩) 6 cap),(3,.slice (some ⟨gr,0,none⟩) 6 cap)]) hF (r_move (hF.at 0 rfl)) rfl rfl rfl rfl fun a hF=>?_
     refine E.nil0 ?_
     refine E.norm ?_
     replace hF:Fr 132 a [(28,.int .i64 ((j+1:Nat):Int)),(106,.int .i64 (((j:Nat):Int)+1)),(105,.bool false),(104,undef),(103,undef),(102,undef),(101,undef),(100,undef),(99,undef),(97,undef),(96,undef),(93,undef),(72,.bool false),(4,.int .i64 ((j:Nat):Int)),(5,.pointer (some ⟨g5,0,none⟩)),(27,.int .i64 6),(26,.slice (some ⟨gr,0,none⟩) 6 cap),(3,.slice (some ⟨gr,0,none⟩) 6 cap)]:=by rw[show((j+1:Nat):Int)=((j:Nat):Int)+1 from by omega];exact hF
     exact⟨(6-(j+1)),by omega,⟨(j+1),(by omega),Fr.pick (L':=[(28,.int .i64 ((j+1:Nat):Int)),(27,.int .i64 6),(26,.slice (some ⟨gr,0,none⟩) 6 cap),(3,.slice (some ⟨gr,0,none⟩) 6 cap)]) hF [0,15,16,17] rfl,st.pick [1] [] rfl rfl (by decide),rfl⟩⟩
  ·refine E.opv hF (r_bin (hF.at 0 rfl) (hF.at 1 rfl) eg_scalar (bi_int (ic_lss (c:=false) (dec_ff hc10)) (by simp))) rfl rfl rfl rfl fun a hF=>?_
   refine E.nil ?_
   refine wp_seq ?_
   refine wp_cond_false (hF.at 0 rfl) ?_
   refine wp_exit ?_
   refine E.past ?_
   refine E.past ?_
   refine E.out (id:=0) ?_
   refine E.norm ?_
   refine wp_seq ?_
   refine E.rg 17 mixed hF [107,108,109,110,111,112,113,114,115,116,117,118,119,120,121,122,123] [_,.ex (.pointer (some ⟨gr,4*1,none⟩)),.ex (.agg #[.int .i64 (moD fd 1),.int .i64 (moD fd 2),.int .i64 (smV (moD fd 1)%12),.int .i64 (smV (moD fd 2)%12)]),_,.ex (.pointer (some ⟨gr,4*0,none⟩)),.ex (.pointer (some ⟨gr,(4*0+1),none⟩)),.ex (.int .i64 (moD fd 1)),_,.ex (.bool true),.ex (.bool true),.ex (.slice (some ⟨gr,0,none⟩) 6 cap),.ex (.pointer (some ⟨gr,4*1,none⟩)),.ex (.agg #[.int .i64 (moD fd 1),.int .i64 (moD fd 2),.int .i64 (smV (moD fd 1)%12),.int .i64 (smV (moD fd 2)%12)]),.ex (.slice (some ⟨gr,0,none⟩) 6 cap),.ex (.pointer (some ⟨gr,4*0,none⟩)),.ex (.agg #[.int .i64 (moD fd 0),.int .i64 (moD fd 1),.int .i64 (smV (moD fd 0)%12),.int .i64 (smV (moD fd 1)%12)]),.ex (.agg #[.int .i64 (moD fd 1),.int .i64 (nextD (moD fd 1)),.int .i64 (smV (moD fd 1)%12),.int .i64 (smV (nextD (moD fd 1))%12)])] (by decide+kernel) rfl rfl rfl ⟨rm 4 rfl,(by intro a' w' hF' hb hd;have e107:=sHe hd 0 107 rfl rfl rfl rfl;exact dv0 (r_index e107 ev_c (ix_mo (i:=1) (by omega) (by omega))) rfl rfl rfl),(by intro a' w' hF' hb hd;have e108:=sHe hd 0 108 rfl rfl rfl rfl;exact dv0 (r_load e108 (ldb_MMO (vs:=[.int .i64 (moD fd 1),.int .i64 (moD fd 2),.int .i64 (smV (moD fd 1)%12),.int .i64 (smV (moD fd 2)%12)]) ((st.bk 0 rfl).below hb) (moR_at _ _ (by omega)) rfl)) rfl rfl rfl),rm 4 rfl,(by intro a' w' hF' hb hd;have e110:=sHe hd 0 110 rfl rfl rfl rfl;exact dv0 (r_index e110 ev_c (ix_mo (i:=0) (by omega) (by omega))) rfl rfl rfl),(by intro a' w' hF' hb hd;have e111:=sHe hd 0 111 rfl rfl rfl rfl;exact dv0 (r_field e111 (fa_MMO_1 (p:=(4*0+1)) rfl)) rfl rfl rfl),(by intro a' w' hF' hb hd;have e112:=sHe hd 0 112 rfl rfl rfl rfl;exact dv0 (r_load e112 (ldb_i64 (v:= .int .i64 (moD fd 1)) ((st.bk 0 rfl).below hb) ((moR_cell fd more (k:=6) (i:=0) (j:=1) (by omega) (by omega)).trans rfl))) rfl rfl rfl),ck st k44 rfl fun _ s=>ex_ret (moOf_any (moD fd 1) _ (hT.below s.bel) (by omega) (by omega) (moD_comes hln.2.2 _)),(by intro a' w' hF' hb hd;have e109:=sHe hd 0 109 rfl rfl rfl rfl;have e114:=sHe hd 1 114 rfl rfl rfl rfl;exact dv0 (r_bin e109 e114 eg_MMO (es_MMO (dec_tt ⟨rfl,rfl,rfl,rfl⟩))) rfl rfl rfl),(by intro a' w' hF' hb hd;have e115:=sHe hd 0 115 rfl rfl rfl rfl;exact dv0 (r_move e115) rfl rfl rfl),(by intro a' w' hF' hb hd;have e116:=sHe hd 0 116 rfl rfl rfl rfl;exact dv1 (wanted_by rfl rfl e116 rfl) (r_move (hF'.at 4 rfl)) rfl rfl),(by intro a' w' hF' hb hd;have e116:=sHe hd 1 116 rfl rfl rfl rfl;have e117:=sHe hd 0 117 rfl rfl rfl rfl;exact dv1 (wanted_by rfl rfl e116 rfl) (r_index e117 ev_c (ix_mo (i:=1) (by omega) (by omega))) rfl rfl),(by intro a' w' hF' hb hd;have e116:=sHe hd 1 116 rfl rfl rfl rfl;have e118:=sHe hd 0 118 rfl rfl rfl rfl;exact dv1 (wanted_by rfl rfl e116 rfl) (r_load e118 (ldb_MMO (vs:=[.int .i64 (moD fd 1),.int .i64 (moD fd 2),.int .i64 (smV (moD fd 1)%12),.int .i64 (smV (moD fd 2)%12)]) ((st.bk 0 rfl).below hb) (moR_at _ _ (by omega)) rfl)) rfl rfl),(by intro a' w' hF' hb hd;have e116:=sHe hd 0 116 rfl rfl rfl rfl;exact dv1 (wanted_by rfl rfl e116 rfl) (r_move (hF'.at 4 rfl)) rfl rfl),(by intro a' w' hF' hb hd;have e116:=sHe hd 1 116 rfl rfl rfl rfl;have e120:=sHe hd 0 120 rfl rfl rfl rfl;exact dv1 (wanted_by rfl rfl e116 rfl) (r_index e120 ev_c (ix_mo (i:=0) (by omega) (by omega))) rfl rfl),(by intro a' w' hF' hb hd;have e116:=sHe hd 1 116 rfl rfl rfl rfl;have e121:=sHe hd 0 121 rfl rfl rfl rfl;exact dv1 (wanted_by rfl rfl e116 rfl) (r_load e121 (ldb_MMO (vs:=[.int .i64 (moD fd 0),.int .i64 (moD fd 1),.int .i64 (smV (moD fd 0)%12),.int .i64 (smV (moD fd 1)%12)]) ((st.bk 0 rfl).below hb) (moR_at _ _ (by omega)) rfl)) rfl rfl),(by intro a' w' hF' hb hd;have e116:=sHe hd 1 116 rfl rfl rfl rfl;have e122:=sHe hd 0 122 rfl rfl rfl rfl;exact dcx1 (wanted_by rfl rfl e116 rfl) (r_call Tryz.func45 en45.1 en45.2 (map1 e122)) (moAfter_any (moD fd 0) (moD fd 1) (smV (moD fd 0)%12) (smV (moD fd 1)%12) _ (hT.below (below_to st.bel hb)) (by omega) (by omega) (moD_comes hln.2.2 _)) (fun _=>rfl) rfl),trivial⟩ ?_
   intro a w29 hF bb hall
   replace st:=st.to bb
   replace hF:=rE hall hF 9 rfl rfl
   replace hF:=rE hall hF 12 rfl rfl
   replace hF:=rE hall hF 16 rfl rfl
   clear hall bb
   refine E.opvg hF (r_bin (hF.at 1 rfl) (hF.at 0 rfl) eg_MMO (es_MMO (dec_tt ⟨rfl,rfl,rfl,rfl⟩))) (wanted_by rfl rfl (hF.at 2 rfl) rfl) rfl rfl rfl fun a hF=>?_
   refine E.opv hF (r_pick_t (hF.at 3 rfl) (hF.at 0 rfl)) rfl rfl rfl rfl fun a hF=>?_
   refine E.opv hF (r_move (hF.at 0 rfl)) rfl rfl rfl rfl fun a hF=>?_
   refine S.ckg st hF (wanted_by rfl rfl (hF.at 0 rfl) rfl) (rgc k40 (map1 ev_c)) (rq_ret (rWhole_any (0) _ (by decide) (by decide)) (rlim_int (limz_64 (by decide) (by decide)) (by omega))) Rl.cl rfl rfl rfl fun vv31 w30 a st hF=>?_
   obtain⟨b33,ad33,n33,c33,ae33,m33,d33,rfl⟩:=Rq.form (st.f 0 rfl).1
   refine S.callg st hF (wanted_by rfl rfl (hF.at 1 rfl) rfl) (rgc k39 (map2 (hF.at 0 rfl) ev_c)) (moRow0_any _ _ 2 _ (hT.below st.bel) (st.f 0 rfl).1 (st.f 0 rfl).2 (by omega) (by rw[Rat.floor_intCast];decide) (by rw[Rat.floor_intCast];decide)) (fun _ _ h=>h) row0_cl rfl rfl rfl fun vv35 w34 a st hF=>?_
   obtain⟨ad0,cap0,rfl⟩:=(st.f 0 rfl)
   refine E.opvg hF (r_builtin (map1 (hF.at 0 rfl)) bl_mo00) (wanted_by rfl rfl (hF.at 2 rfl) rfl) rfl rfl rfl fun a hF=>?_
   refine E.opvg hF (r_bin (hF.at 0 rfl) ev_c eg_scalar (bi_int (ic_eql (c:=true) (by decide)) (by simp))) (wanted_by rfl rfl (hF.at 3 rfl) rfl) rfl rfl rfl fun a hF=>?_
   refine E.opv hF (r_pick_t (hF.at 4 rfl) (hF.at 0 rfl)) rfl rfl rfl rfl fun a hF=>?_
   refine E.opv hF (r_assign (hF.at 0 rfl)) rfl rfl rfl rfl fun a hF=>?_
   refine E.nil ?_
   refine wp_ret ?_
   have bel:=st.bel
   refine bodyPost_ret (res_tmp Tryz.results10 (hF.at 0 rfl)) hF.dfr ?_
   exact⟨rfl,bel⟩
end Go.Proofs.YtnljadejcfgmaaaGreatDoor
