import Derived.Test.YtnljadejcfgmaaaGreatDoorKC40
namespace Go.Proofs.YtnljadejcfgmaaaGreatDoor
open Go.RowKit
set_option maxRecDepth 100000
set_option linter.unusedVariables false
set_option maxHeartbeats 8000000
theorem nm_at19 (n:Int):(((1024*n+hlv wax ((n:Int):Rat) (((n+1:Int)):Rat) 10+1:Int)):Rat)/((1024:Int):Rat)=nmR n:=by
 rw[show 1024*n+hlv wax ((n:Int):Rat) (((n+1:Int)):Rat) 10+1=1024*n+(hlv wax ((n:Int):Rat) (((n+1:Int)):Rat) 10+1) by omega,moon_at]
 rfl
theorem rSignOf19_any (n:Int) (w:World) (hn0: -100000000≤n) (hn1:n≤100000000):
 Calls Tryz.prog 156 #[.int .i64 n] w (ValPost w (.int .i64 (smV n%12))):=by
 have st:=St.start w
 refine E.enter (nt:=14) (L:=[(0,.int .i64 n)]) Tryz.func156 rfl rfl rfl (args_cons (i:=0) rfl args_nil) ?_
 intro a hF
 refine wp_seq ?_
 refine E.seq ?_
 refine E.opv hF (r_assign ev_c) rfl rfl rfl rfl fun a hF=>?_
 refine E.nil ?_
 refine wp_seq ?_
 refine E.seq ?_
 refine E.opv hF (r_move (hF.at 1 rfl)) rfl rfl rfl rfl fun a hF=>?_
 refine E.opv hF (r_bin ev_c (hF.at 0 rfl) eg_scalar (ia_mul (by omega) (by omega))) rfl rfl rfl rfl fun a hF=>?_
 refine E.opv hF (r_move (hF.at 3 rfl)) rfl rfl rfl rfl fun a hF=>?_
 refine S.callx st hF (rgc k195 (map1 (hF.at 0 rfl))) (rMoon15_any n _ (by omega) (by omega)) rfl rfl rfl rfl fun w1 a st hF=>?_
 have hmn15:=hlv_bd wax ((n:Int):Rat) (((n+1:Int)):Rat) 10
 refine E.opv hF (r_bin (hF.at 2 rfl) (hF.at 0 rfl) eg_scalar (ia_add (by omega) (by omega))) rfl rfl rfl rfl fun a hF=>?_
 refine E.opv hF (r_bin (hF.at 0 rfl) ev_c eg_scalar (ia_add (by omega) (by omega))) rfl rfl rfl rfl fun a hF=>?_
 refine S.ck st hF (rgc k38 (map2 (hF.at 0 rfl) ev_c)) (rr_ret (dOf_any (((1024*n)+(hlv wax ((n:Int):Rat) (((n+1:Int)):Rat) 10))+1) (1024) _ (by omega) (by omega) (by decide) (by decide)) (RLim.up (rlim_mk2 (limz_64 (by omega) (by omega)) (limz_64 (by decide) (by decide))) 2 (by decide))) Rh.cl rfl fun vv3 w2 a st hF=>?_
 obtain⟨b5,ad5,n5,c5,ae5,m5,d5,rfl⟩:=Rr.form (st.f 0 rfl).1
 refine S.new st hF 0 rfl ty_RRat rfl rfl rfl rfl rfl fun g3 w6 a st hF=>?_
 refine E.nil ?_
 refine wp_seq ?_
 refine E.seq ?_
 refine E.opv hF (r_load (hF.at 0 rfl) (ld_all ty_RRat (st.bk 0 rfl) rfl)) rfl rfl rfl rfl fun a hF=>?_
 refine S.ck st hF (rgc k83 (map1 (hF.at 0 rfl))) (hSunH (st.f 0 rfl)) Rh.cl rfl fun vv8 w7 a st hF=>?_
 obtain⟨b10,ad10,n10,c10,ae10,m10,d10,rfl⟩:=Rr.form (st.f 0 rfl).1
 refine S.callx st hF (rgc k85 (map2 (hF.at 0 rfl) ev_c)) (rPart12_any _ _ 422 106 12 _ (st.f 0 rfl).1 (st.f 0 rfl).2 (by omega) (by omega) (by omega) (by omega) (by omega)) rfl rfl rfl rfl fun w11 a st hF=>?_
 have hpt71133:=prt_bd (x:=rmod (sunV (((((1024*n)+(hlv wax ((n:Int):Rat) (((n+1:Int)):Rat) 10))+1:Int):Rat)/((1024:Int):Rat))) ((360:Int):Rat)) (n:=12) (by omega) (rmod_low c360_pos) (rmod_high c360_pos)
 refine E.opset (L':=[(2,.int .i64 (prt (rmod (sunV (((((1024*n)+(hlv wax ((n:Int):Rat) (((n+1:Int)):Rat) 10))+1:Int):Rat)/((1024:Int):Rat))) ((360:Int):Rat)) 12)),(13,.int .i64 (prt (rmod (sunV (((((1024*n)+(hlv wax ((n:Int):Rat) (((n+1:Int)):Rat) 10))+1:Int):Rat)/((1024:Int):Rat))) ((360:Int):Rat)) 12)),(12,.agg #[.bool b10,.slice ad10 n10 c10,.slice ae10 m10 d10]),(11,.agg #[.bool b5,.slice ad5 n5 c5,.slice ae5 m5 d5]),(3,.pointer (some ⟨g3,0,none⟩)),(10,.agg #[.bool b5,.slice ad5 n5 c5,.slice ae5 m5 d5]),(9,.int .i64 (((1024*n)+(hlv wax ((n:Int):Rat) (((n+1:Int)):Rat) 10))+1)),(8,.int .i64 ((1024*n)+(hlv wax ((n:Int):Rat) (((n+1:Int)):Rat) 10))),(7,.int .i64 (hlv wax ((n:Int):Rat) (((n+1:Int)):Rat) 10)),(6,.int .i64 n),(5,.int .i64 (1024*n)),(4,.int .i64 n),(0,.int .i64 n)]) hF (r_assign (hF.at 0 rfl)) rfl rfl rfl rfl fun a hF=>?_
 refine E.nil ?_
 refine wp_ret ?_
 have bel:=st.bel
 refine bodyPost_ret (res_tmp Tryz.results156 (hF.at 0 rfl)) hF.dfr ?_
 refine⟨rv_int ?_,bel⟩
 rw[nm_at19]
 show _=kaV (nmR n)%12
 rw[←ka_sign]
 exact congrArg (fun x=>prt x 12) (rmod_id (rmod_low c360_pos) (rmod_high c360_pos))
theorem rOf19_any (n:Int) (w:World) (hn0: -99000000≤n) (hn1:n≤99000000) (hc:comes n=true):
 Calls Tryz.prog 102 #[.int .i64 n] w (ValPost w (.agg #[.int .i64 n,.int .i64 (nextD n),.int .i64 (smV n%12),.int .i64 (smV (nextD n)%12)])):=by
 have hns:=nextD_spec hc
 have st:=St.start w
 refine E.enter (nt:=13) (L:=[(0,.int .i64 n)]) Tryz.func102 rfl rfl rfl (args_cons (i:=0) rfl args_nil) ?_
 intro a hF
 refine wp_seq ?_
 refine E.seq ?_
 refine S.alloc st hF ty_RMO rfl rfl fun g2 w1 a st hF=>?_
 refine E.nil ?_
 refine wp_seq ?_
 refine E.seq ?_
 refine E.opv hF (r_move (hF.at 1 rfl)) rfl rfl rfl rfl fun a hF=>?_
 refine S.callx st hF (rgc k155 (map1 (hF.at 0 rfl))) (rNext15_any n _ (by omega) (by omega) hc) rfl rfl rfl rfl fun w2 a st hF=>?_
 refine E.opv hF (r_assign (hF.at 0 rfl)) rfl rfl rfl rfl fun a hF=>?_
 refine E.nil ?_
 refine wp_seq ?_
 refine E.seq ?_
 refine E.opv hF (r_move (hF.at 4 rfl)) rfl rfl rfl rfl fun a hF=>?_
 refine E.opv hF (r_move (hF.at 1 rfl)) rfl rfl rfl rfl fun a hF=>?_
 refine E.opv hF (r_move (hF.at 6 rfl)) rfl rfl rfl rfl fun a hF=>?_
 refine S.callx st hF (rgc k156 (map1 (hF.at 0 rfl))) (rSignOf19_any n _ (by omega) (by omega)) rfl rfl rfl rfl fun w3 a st hF=>?_
 refine E.opv hF (r_move (hF.at 4 rfl)) rfl rfl rfl rfl fun a hF=>?_
 refine S.callx st hF (rgc k156 (map1 (hF.at 0 rfl))) (rSignOf19_any (nextD n) _ (by omega) (by omega)) rfl rfl rfl rfl fun w4 a st hF=>?_
 refine E.opv hF (r_build (pair4 (hF.at 5 rfl) (hF.at 4 rfl) (hF.at 2 rfl) (hF.at 0 rfl)) (bd_RMO_0123 _ _ _ _ _)) rfl rfl rfl rfl fun a hF=>?_
 refine S.stoI st hF 0 rfl (hF.at 10 rfl) (hF.at 0 rfl) ty_RMO rfl rfl rfl fun w5 a st hF=>?_
 refine E.nil ?_
 refine wp_ret ?_
 refine S.ret Tryz.results102 st hF (hF.at 10 rfl) 0 rfl ty_RMO rfl hF.dfr ?_
 have bel:=st.bel
 exact⟨rfl,bel⟩
theorem rAt19_any (v1:Value) (q1:Rat) (k i:Nat) (w:World) (h1:Rr w v1 q1 k) (li1:RLim q1 i) (hp:1≤k) (hk:k≤300) (hi:i≤3) (hf0: -90000000≤Rat.floor q1) (hf1:Rat.floor q1≤90000000):
 Calls Tryz.prog 37 #[v1] w (ValPost w (.agg #[.int .i64 (lastV q1),.int .i64 (nextD (lastV q1)),.int .i64 (smV (lastV q1)%12),.int .i64 (smV (nextD (lastV q1))%12)])):=by
 obtain⟨b1,ad1,n1,c1,ae1,m1,d1,rfl⟩:=h1.form
 have hlv:=lastV_bd q1
 have st:=St.start w
 refine E.enter (nt:=6) (L:=[(0,.agg #[.bool b1,.slice ad1 n1 c1,.slice ae1 m1 d1])]) Tryz.func37 rfl rfl rfl (args_cons (i:=0) rfl args_nil) ?_
 intro a hF
 refine wp_seq ?_
 refine E.seq ?_
 refine S.box st hF (hF.at 0 rfl) rfl rfl fun g1 w1 a st hF=>?_
 refine S.alloc st hF ty_RMO rfl rfl fun g2 w2 a st hF=>?_
 refine E.nil ?_
 refine wp_seq ?_
 refine E.seq ?_
 refine E.opv hF (r_load (hF.at 1 rfl) (ld_all ty_RRat (st.bk 1 rfl) rfl)) rfl rfl rfl rfl fun a hF=>?_
 refine S.callx st hF (rgc k103 (map1 (hF.at 0 rfl))) (rLast15_any _ (q1) k i _ (h1.below st.bel) li1 (by omega) (by omega) (by omega) (by omega) (by omega)) rfl rfl rfl rfl fun w3 a st hF=>?_
 have hlv15:=lastV_bd (q1)
 refine S.callx st hF (rgc k102 (map1 (hF.at 0 rfl))) (rOf19_any (lastV (q1)) _ (by omega) (by omega) (lastV_comes q1)) rfl rfl rfl rfl fun w4 a st hF=>?_
 refine S.stoI st hF 0 rfl (hF.at 3 rfl) (hF.at 0 rfl) ty_RMO rfl rfl rfl fun w5 a st hF=>?_
 refine E.nil ?_
 refine wp_ret ?_
 refine S.ret Tryz.results37 st hF (hF.at 3 rfl) 0 rfl ty_RMO rfl hF.dfr ?_
 have bel:=st.bel
 exact⟨rfl,bel⟩
theorem awake19_any (w:World):
 Calls Tryz.prog 33 #[] w (ValPost w (.bool true)):=by
 have st:=St.start w
 refine E.enter (nt:=20) (L:=[]) Tryz.func33 rfl rfl rfl args_nil ?_
 intro a hF
 refine wp_seq ?_
 refine E.seq ?_
 refine E.opv hF (r_assign ev_c) rfl rfl rfl rfl fun a hF=>?_
 refine E.nil ?_
 refine wp_seq ?_
 refine E.seq ?_
 refine E.opv hF (r_build (pair2 ev_c ev_c) (bd_MMO_23 _ _ _)) rfl rfl rfl rfl fun a hF=>?_
 refine S.new st hF 0 rfl ty_MMO rfl rfl rfl rfl rfl fun g1 w1 a st hF=>?_
 refine E.nil ?_
 refine wp_seq ?_
 refine E.seq ?_
 refine E.opv hF (r_load (hF.at 0 rfl) (ld_all ty_MMO (st.bk 0 rfl) rfl)) rfl rfl rfl rfl fun a hF=>?_
 refine S.callx st hF (rgc k98 (map1 (hF.at 0 rfl))) (moNumber_any 0 0 11 1 _ (by omega) (by omega)) rfl rfl rfl rfl fun w2 a st hF=>?_
 refine E.opv hF (r_bin (hF.at 0 rfl) ev_c eg_scalar (bi_int (ic_eql (c:=true) (dec_tt (by decide+kernel))) (by simp))) rfl rfl rfl rfl fun a hF=>?_
 refine E.opv hF (r_move (hF.at 0 rfl)) rfl rfl rfl rfl fun a hF=>?_
 refine E.opvg hF (r_load (hF.at 4 rfl) (ld_all ty_MMO (st.bk 0 rfl) rfl)) (wanted_by rfl rfl (hF.at 0 rfl) rfl) rfl rfl rfl fun a hF=>?_
 refine S.callxg st hF (wanted_by rfl rfl (hF.at 1 rfl) rfl) (rgc k43 (map1 (hF.at 0 rfl))) (moLost_any 0 0 11 1 _ (by omega) (by omega)) rfl rfl rfl fun w3 a st hF=>?_
 refine E.opvg hF (r_bin (hF.at 0 rfl) ev_c eg_scalar (bi_int (ic_eql (c:=true) (dec_tt (by decide+kernel))) (by simp))) (wanted_by rfl rfl (hF.at 2 rfl) rfl) rfl rfl rfl fun a hF=>?_
 refine E.opv hF (r_pick_t (hF.at 3 rfl) (hF.at 0 rfl)) rfl rfl rfl rfl fun a hF=>?_
 refine E.opv hF (r_move (hF.at 0 rfl)) rfl rfl rfl rfl fun a hF=>?_
 refine E.opvg hF (r_load (hF.at 9 rfl) (ld_all ty_MMO (st.bk 0 rfl) rfl)) (wanted_by rfl rfl (hF.at 0 rfl) rfl) rfl rfl rfl fun a hF=>?_
 refine S.callxg st hF (wanted_by rfl rfl (hF.at 1 rfl) rfl) (rgc k42 (map1 (hF.at 0 rfl))) (moLeap_any 0 0 11 1 _) rfl rfl rfl fun w4 a st hF=>?_
 refine E.opvg hF (r_un (Eq.trans (hF.at 0 rfl) (congrArg Value.bool (show decide ((11:Int)=1)=false by decide))) (bn_not _ true rfl)) (wanted_by rfl rfl (hF.at 2 rfl) rfl) rfl rfl rfl fun a hF=>?_
 refine E.opv hF (r_pick_t (hF.at 3 rfl) (hF.at 0 rfl)) rfl rfl rfl rfl fun a hF=>?_
 refine E.opv hF (r_move (hF.at 0 rfl)) rfl rfl rfl rfl fun a hF=>?_
 refine E.opvg hF (r_build (pair2 ev_c ev_c) (bd_MMO_23 _ _ _)) (wanted_by rfl rfl (hF.at 0 rfl) rfl) rfl rfl rfl fun a hF=>?_
 refine S.callxg st hF (wanted_by rfl rfl (hF.at 1 rfl) rfl) (rgc k42 (map1 (hF.at 0 rfl))) (moLeap_any 0 0 3 3 _) rfl rfl rfl fun w5 a st hF=>?_
 refine E.opv hF (r_pick_t (hF.at 2 rfl) (hF.at 0 rfl)) rfl rfl rfl rfl fun a hF=>?_
 refine E.opset (L':=[(0,.bool (decide (3=3))),(19,.bool (decide (3=3))),(18,.bool (decide (3=3))),(17,.agg #[.int .i64 0,.int .i64 0,.int .i64 3,.int .i64 3]),(16,.bool true),(15,.bool true),(14,.bool true),(13,.bool (decide (11=1))),(12,.agg #[.int .i64 0,.int .i64 0,.int .i64 11,.int .i64 1]),(11,.bool true),(10,.bool true),(9,.bool true),(8,.int .i64 (loV 11 1)),(7,.agg #[.int .i64 0,.int .i64 0,.int .i64 11,.int .i64 1]),(6,.bool true),(5,.bool true),(4,.int .i64 ((11+1)%12+1)),(3,.agg #[.int .i64 0,.int .i64 0,.int .i64 11,.int .i64 1]),(1,.pointer (some ⟨g1,0,none⟩)),(2,.agg #[.int .i64 0,.int .i64 0,.int .i64 11,.int .i64 1])]) hF (r_assign (hF.at 0 rfl)) rfl rfl rfl rfl fun a hF=>?_
 refine E.nil ?_
 refine wp_ret ?_
 have bel:=st.bel
 refine bodyPost_ret (res_tmp Tryz.results33 (hF.at 0 rfl)) hF.dfr ?_
 exact⟨rfl,bel⟩
theorem told19_any (z0 z1 z2 z3:Int) (w:World):
 Calls Tryz.prog 36 #[.agg #[.int .i64 z0,.int .i64 z1,.int .i64 z2,.int .i64 z3]] w (ValPost w (.agg #[.int .i64 z0,.int .i64 z1,.int .i64 z2,.int .i64 z3])):=by
 have st:=St.start w
 refine E.enter (nt:=12) (L:=[(0,.agg #[.int .i64 z0,.int .i64 z1,.int .i64 z2,.int .i64 z3])]) Tryz.func36 rfl rfl rfl (args_cons (i:=0) rfl args_nil) ?_
 intro a hF
 refine wp_seq ?_
 refine E.seq ?_
 refine S.box st hF (hF.at 0 rfl) rfl rfl fun g1 w1 a st hF=>?_
 refine S.alloc st hF ty_RMO rfl rfl fun g2 w2 a st hF=>?_
 refine E.nil ?_
 refine wp_seq ?_
 refine E.seq ?_
 refine E.opv hF (r_field (hF.at 1 rfl) (fa_MMO_0 (p:=0) rfl)) rfl rfl rfl rfl fun a hF=>?_
 refine E.opv hF (r_load (hF.at 0 rfl) (ldb_i64 (v:= .int .i64 z0) (st.bk 1 rfl) rfl)) rfl rfl rfl rfl fun a hF=>?_
 refine E.opv hF (r_field (hF.at 3 rfl) (fa_MMO_1 (p:=1) rfl)) rfl rfl rfl rfl fun a hF=>?_
 refine E.opv hF (r_load (hF.at 0 rfl) (ldb_i64 (v:= .int .i64 z1) (st.bk 1 rfl) rfl)) rfl rfl rfl rfl fun a hF=>?_
 refine E.opv hF (r_field (hF.at 5 rfl) (fa_MMO_2 (p:=2) rfl)) rfl rfl rfl rfl fun a hF=>?_
 refine E.opv hF (r_load (hF.at 0 rfl) (ldb_int (v:= .int .i64 z2) (st.bk 1 rfl) rfl)) rfl rfl rfl rfl fun a hF=>?_
 refine E.opv hF (r_field (hF.at 7 rfl) (fa_MMO_3 (p:=3) rfl)) rfl rfl rfl rfl fun a hF=>?_
 refine E.opv hF (r_load (hF.at 0 rfl) (ldb_int (v:= .int .i64 z3) (st.bk 1 rfl) rfl)) rfl rfl rfl rfl fun a hF=>?_
 refine E.opv hF (r_build (pair4 (hF.at 6 rfl) (hF.at 4 rfl) (hF.at 2 rfl) (hF.at 0 rfl)) (bd_RMO_0123 _ _ _ _ _)) rfl rfl rfl rfl fun a hF=>?_
 refine S.stoI st hF 0 rfl (hF.at 9 rfl) (hF.at 0 rfl) ty_RMO rfl rfl rfl fun w3 a st hF=>?_
 refine E.nil ?_
 refine wp_ret ?_
 refine S.ret Tryz.results36 st hF (hF.at 9 rfl) 0 rfl ty_RMO rfl hF.dfr ?_
 have bel:=st.bel
 exact⟨rfl,bel⟩
theorem moonsAt_walk (da db:Int) (w:World) (hT:TabD w):
 Calls Tryz.prog 9 #[.int .i64 da,.int .i64 db] w (ValPost w (.bool true)):=by
 have hin0:=inD_bd da
 obtain⟨n,hn⟩:∃z,z=(4096*(inD da))+(db%4096):=⟨_,rfl⟩
 have st:=St.start w
 refine E.enter (nt:=24) (L:=[(0,.int .i64 da),(1,.int .i64 db)]) Tryz.func9 rfl rfl rfl (args_cons (i:=0) rfl (args_cons (i:=1) rfl args_nil)) ?_
 intro a hF
 refine wp_seq ?_
 refine E.seq ?_
 refine E.opv hF (r_assign ev_c) rfl rfl rfl rfl fun a hF=>?_
 refine E.nil ?_
 refine wp_seq ?_
 refine wp_seq ?_
 refine E.seq ?_
 refine S.callx st hF (rgc k33 map0) (awake19_any _) rfl rfl rfl rfl fun w1 a st hF=>?_
 refine E.opv hF (r_un (hF.at 0 rfl) (bn_not _ false rfl)) rfl rfl rfl rfl fun a hF=>?_
 refine E.nil ?_
 refine wp_cond_false (hF.at 0 rfl) ?_
 refine wp_skip ?_
 refine E.norm ?_
 refine wp_seq ?_
 refine E.seq ?_
 refine E.opv hF (r_move (hF.at 3 rfl)) rfl rfl rfl rfl fun a hF=>?_
 refine S.callx st hF (rgc k14 (map1 (hF.at 0 rfl))) (inD_any da _) rfl rfl rfl rfl fun w2 a st hF=>?_
 have hin:=inD_bd da
 refine E.opv hF (r_bin ev_c (hF.at 0 rfl) eg_scalar (ia_mul (by omega) (by omega))) rfl rfl rfl rfl fun a hF=>?_
 refine E.opv hF (r_move (hF.at 7 rfl)) rfl rfl rfl rfl fun a hF=>?_
 refine E.opv hF (r_bin (hF.at 0 rfl) ev_c eg_scalar (id_and (n:=12) (by decide) (d:=4096) (by decide) (by decide))) rfl rfl rfl rfl fun a hF=>?_
 refine E.opv hF (r_bin (hF.at 2 rfl) (hF.at 0 rfl) eg_scalar (ia_add (by omega) (by omega))) rfl rfl rfl rfl fun a hF=>?_
 refine E.opv hF (r_assign (hF.at 0 rfl)) rfl rfl rfl rfl fun a hF=>?_
 replace hF:Fr 24 a [(5,.int .i64 n),(14,.int .i64 ((4096*(inD da))+(db%4096))),(13,.int .i64 (db%4096)),(12,.int .i64 db),(11,.int .i64 (4096*(inD da))),(10,.int .i64 (inD da)),(9,.int .i64 da),(8,.bool false),(7,.bool true),(4,.bool false),(0,.int .i64 da),(1,.int .i64 db)]:=by rw[hn];exact hF
 refine E.nil ?_
 refine wp_seq ?_
 refine E.seq ?_
 refine E.opv hF (r_move (hF.at 0 rfl)) rfl rfl rfl rfl fun a hF=>?_
 refine S.ck st hF (rgc k35 (map2 (hF.at 0 rfl) ev_c)) (rq_ret (rOf2_any (n) (4096) _ (by omega) (by omega) (by decide) (by decide)) (RLim.up (rlim_mk2 (limz_64 (by omega) (by omega)) (limz_64 (by decide) (by decide))) 2 (by decide))) Rl.cl rfl fun vv4 w3 a st hF=>?_
 obtain⟨b6,ad6,n6,c6,ae6,m6,d6,rfl⟩:=Rq.form (st.f 0 rfl).1
 refine S.callx st hF (rgc k34 (map1 (hF.at 0 rfl))) (moAt_any _ _ 2 _ (hT.below st.bel) (st.f 0 rfl).1 (st.f 0 rfl).2 (by omega) (by rw[fl_quo (by decide)];omega) (by rw[fl_quo (by decide)];omega)) rfl rfl rfl rfl fun w7 a st hF=>?_
 refine S.new st hF 0 rfl ty_MMO rfl rfl rfl rfl rfl fun g6 w8 a st hF=>?_
 refine E.nil ?_
 refine wp_seq ?_
 refine E.seq ?_
 refine E.opv hF (r_load (hF.at 0 rfl) (ld_all ty_MMO (st.bk 0 rfl) rfl)) rfl rfl rfl rfl fun a hF=>?_
 refine S.callx st hF (rgc k36 (map1 (hF.at 0 rfl))) (told19_any (lastV (((n:Int):Rat)/((4096:Int):Rat))) (nextD (lastV (((n:Int):Rat)/((4096:Int):Rat)))) (smV (lastV (((n:Int):Rat)/((4096:Int):Rat)))%12) (smV (nextD (lastV (((n:Int):Rat)/((4096:Int):Rat))))%12) _) rfl rfl rfl rfl fun w9 a st hF=>?_
 refine E.opv hF (r_move (hF.at 6 rfl)) rfl rfl rfl rfl fun a hF=>?_
 refine S.ck st hF (rgc k38 (map2 (hF.at 0 rfl) ev_c)) (rr_ret (dOf_any (n) (4096) _ (by omega) (by omega) (by decide) (by decide)) (RLim.up (rlim_mk2 (limz_64 (by omega) (by omega)) (limz_64 (by decide) (by decide))) 2 (by decide))) Rh.cl rfl fun vv11 w10 a st hF=>?_
 obtain⟨b13,ad13,n13,c13,ae13,m13,d13,rfl⟩:=Rr.form (st.f 0 rfl).1
 refine S.callx st hF (rgc k37 (map1 (hF.at 0 rfl))) (rAt19_any _ _ 2 2 _ (st.f 0 rfl).1 (st.f 0 rfl).2 (by omega) (by omega) (by omega) (by rw[fl_quo (by decide)];omega) (by rw[fl_quo (by decide)];omega)) rfl rfl rfl rfl fun w14 a st hF=>?_
 refine E.opv hF (r_bin (hF.at 3 rfl) (hF.at 0 rfl) eg_RMO (es_RMO (dec_tt (by simp)))) rfl rfl rfl rfl fun a hF=>?_
 refine E.opset (L':=[(4,.bool true),(23,.bool true),(22,.agg #[.int .i64 (lastV (((n:Int):Rat)/((4096:Int):Rat))),.int .i64 (nextD (lastV (((n:Int):Rat)/((4096:Int):Rat)))),.int .i64 (smV (lastV (((n:Int):Rat)/((4096:Int):Rat)))%12),.int .i64 (smV (nextD (lastV (((n:Int):Rat)/((4096:Int):Rat))))%12)]),(21,.agg #[.bool b13,.slice ad13 n13 c13,.slice ae13 m13 d13]),(20,.int .i64 n),(19,.agg #[.int .i64 (lastV (((n:Int):Rat)/((4096:Int):Rat))),.int .i64 (nextD (lastV (((n:Int):Rat)/((4096:Int):Rat)))),.int .i64 (smV (lastV (((n:Int):Rat)/((4096:Int):Rat)))%12),.int .i64 (smV (nextD (lastV (((n:Int):Rat)/((4096:Int):Rat))))%12)]),(18,.agg #[.int .i64 (lastV (((n:Int):Rat)/((4096:Int):Rat))),.int .i64 (nextD (lastV (((n:Int):Rat)/((4096:Int):Rat)))),.int .i64 (smV (lastV (((n:Int):Rat)/((4096:Int):Rat)))%12),.int .i64 (smV (nextD (lastV (((n:Int):Rat)/((4096:Int):Rat))))%12)]),(6,.pointer (some ⟨g6,0,none⟩)),(17,.agg #[.int .i64 (lastV (((n:Int):Rat)/((4096:Int):Rat))),.int .i64 (nextD (lastV (((n:Int):Rat)/((4096:Int):Rat)))),.int .i64 (smV (lastV (((n:Int):Rat)/((4096:Int):Rat)))%12),.int .i64 (smV (nextD (lastV (((n:Int):Rat)/((4096:Int):Rat))))%12)]),(16,.agg #[.bool b6,.slice ad6 n6 c6,.slice ae6 m6 d6]),(15,.int .i64 n),(5,.int .i64 n),(14,.int .i64 ((4096*(inD da))+(db%4096))),(13,.int .i64 (db%4096)),(12,.int .i64 db),(11,.int .i64 (4096*(inD da))),(10,.int .i64 (inD da)),(9,.int .i64 da),(8,.bool false),(7,.bool true),(0,.int .i64 da),(1,.int .i64 db)]) hF (r_assign (hF.at 0 rfl)) rfl rfl rfl rfl fun a hF=>?_
 refine E.nil ?_
 refine wp_ret ?_
 have bel:=st.bel
 refine bodyPost_ret (res_tmp Tryz.results9 (hF.at 0 rfl)) hF.dfr ?_
 exact⟨rfl,bel⟩
end Go.Proofs.YtnljadejcfgmaaaGreatDoor
