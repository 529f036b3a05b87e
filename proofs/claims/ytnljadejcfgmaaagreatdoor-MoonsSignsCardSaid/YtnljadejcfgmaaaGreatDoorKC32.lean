import Derived.Test.YtnljadejcfgmaaaGreatDoorKC31
namespace Go.Proofs.YtnljadejcfgmaaaGreatDoor
open Go.RowKit
set_option maxRecDepth 100000
set_option linter.unusedVariables false
set_option maxHeartbeats 8000000
theorem hAddE {v1 v2:Value} {p1 p2:Rat} {k1 i1 k2 i2:Nat} {w:World} (x1:Rh p1 k1 i1 w v1) (x2:Rh p2 k2 i2 w v2) (a1:k1≤10000:=by omega) (b1:1≤k1:=by omega) (a2:k2≤10000:=by omega) (b2:1≤k2:=by omega):Calls Tryz.prog 62 #[v1,v2] w (Ret (kh ((p1)+(p2)) ((k1+k2+1)) ((i1+i2+1))) w):=rr_ret (dAdd2_any _ _ (p1) (p2) k1 k2 _ x1.1 x2.1 (by omega) (by omega) (by omega) (by omega)) (rlim_add x1.2 x2.2)
theorem hSubE {v1 v2:Value} {p1 p2:Rat} {k1 i1 k2 i2:Nat} {w:World} (x1:Rh p1 k1 i1 w v1) (x2:Rh p2 k2 i2 w v2) (a1:k1≤10000:=by omega) (b1:1≤k1:=by omega) (a2:k2≤10000:=by omega) (b2:1≤k2:=by omega):Calls Tryz.prog 80 #[v1,v2] w (Ret (kh ((p1)-(p2)) ((k1+k2+1)) ((i1+i2+1))) w):=rr_ret (dSub2_any _ _ (p1) (p2) k1 k2 _ x1.1 x2.1 (by omega) (by omega) (by omega) (by omega)) (rlim_sub x1.2 x2.2)
theorem hMulE {v1 v2:Value} {p1 p2:Rat} {k1 i1 k2 i2:Nat} {w:World} (x1:Rh p1 k1 i1 w v1) (x2:Rh p2 k2 i2 w v2) (a1:k1≤10000:=by omega) (b1:1≤k1:=by omega) (a2:k2≤10000:=by omega) (b2:1≤k2:=by omega):Calls Tryz.prog 63 #[v1,v2] w (Ret (kh ((p1)*(p2)) ((k1+k2)) ((i1+i2))) w):=rr_ret (dMul2_any _ _ (p1) (p2) k1 k2 _ x1.1 x2.1 (by omega) (by omega) (by omega) (by omega)) (rlim_mul x1.2 x2.2)
theorem hDivE {v1 v2:Value} {p1 p2:Rat} {k1 i1 k2 i2:Nat} {w:World} (x1:Rh p1 k1 i1 w v1) (x2:Rh p2 k2 i2 w v2) (a1:k1≤10000:=by omega) (b1:1≤k1:=by omega) (a2:k2≤10000:=by omega) (b2:1≤k2:=by omega):Calls Tryz.prog 81 #[v1,v2] w (Ret (kh ((p1)/(p2)) ((k1+k2)) ((i1+i2))) w):=rr_ret (dDiv2_any _ _ (p1) (p2) k1 k2 _ x1.1 x2.1 (by omega) (by omega) (by omega) (by omega)) (rlim_div x1.2 x2.2)
theorem hModE {v1 v2:Value} {p1 p2:Rat} {k1 i1 k2 i2:Nat} {w:World} (x1:Rh p1 k1 i1 w v1) (x2:Rh p2 k2 i2 w v2) (a1:k1≤4000:=by omega) (b1:1≤k1:=by omega) (c1:i1≤2000:=by omega) (a2:k2≤100:=by omega) (b2:1≤k2:=by omega) (c2:i2≤100:=by omega):Calls Tryz.prog 149 #[v1,v2] w (Ret (kh (rmod (p1) (p2)) ((k1+k2+i1+i2+3)) ((i1+i1+i2+i2+3))) w):=rr_ret (dMod2_any _ _ (p1) (p2) k1 k2 i1 i2 _ x1.1 x2.1 x1.2 x2.2 (by omega) (by omega) (by omega) (by omega) (by omega) (by omega)) (rmod_lim x1.2 x2.2)
theorem hMod3E {v1 v2:Value} {p1:Rat} {k1 i1 k2 i2:Nat} {w:World} (x1:Rh p1 k1 i1 w v1) (x2:Rh ((360:Int):Rat) k2 i2 w v2) (a1:k1≤4000:=by omega) (b1:1≤k1:=by omega) (c1:i1≤2000:=by omega) (a2:k2≤100:=by omega) (b2:1≤k2:=by omega) (c2:i2≤100:=by omega):Calls Tryz.prog 149 #[v1,v2] w (Ret (kh (rmod p1 ((360:Int):Rat)) (k1+k2+i1+i2+3) (i1+4)) w):=rr_ret (dMod2_any _ _ _ _ k1 k2 i1 i2 _ x1.1 x2.1 x1.2 x2.2 (by omega) (by omega) (by omega) (by omega) (by omega) (by omega)) (rmod360_lim x1.2)
theorem rYear11_any (w:World):
 Calls Tryz.prog 82 #[] w (RrPost w pyr 7):=by
 have st:=St.start w
 refine E.enter (nt:=2) (L:=[]) Tryz.func82 rfl rfl rfl args_nil ?_
 intro a hF
 refine wp_seq ?_
 refine E.seq ?_
 refine S.alloc st hF ty_RRat rfl rfl fun g0 w1 a st hF=>?_
 refine E.nil ?_
 refine wp_seq ?_
 refine E.seq ?_
 refine S.ck st hF (rgc k38 (map2 ev_c ev_c)) (rr_ret (dOf_any (394479457) (1080000) _ (by decide) (by decide) (by decide) (by decide)) (RLim.up (rlim_mk2 (limz_64 (by decide) (by decide)) (limz_64 (by decide) (by decide))) 2 (by decide))) Rh.cl rfl fun vv3 w2 a st hF=>?_
 obtain⟨b5,ad5,n5,c5,ae5,m5,d5,rfl⟩:=Rr.form (st.f 0 rfl).1
 refine S.sto st hF 0 rfl (hF.at 1 rfl) (hF.at 0 rfl) ty_RRat rfl rfl rfl rfl fun w6 a st hF=>?_
 refine E.nil ?_
 refine wp_ret ?_
 refine S.ret Tryz.results82 st hF (hF.at 1 rfl) 0 rfl ty_RRat rfl hF.dfr ?_
 have bel:=st.bel
 exact⟨_,rfl,Rr.cast (Rr.up (st.f 0 rfl).1 _ (by omega)) (by decide+kernel),bel⟩
theorem rMonth11_any (w:World):
 Calls Tryz.prog 232 #[] w (RrPost w pmo 7):=by
 have st:=St.start w
 refine E.enter (nt:=4) (L:=[]) Tryz.func232 rfl rfl rfl args_nil ?_
 intro a hF
 refine wp_seq ?_
 refine E.seq ?_
 refine S.alloc st hF ty_RRat rfl rfl fun g0 w1 a st hF=>?_
 refine E.nil ?_
 refine wp_seq ?_
 refine E.seq ?_
 refine S.ck st hF (rgc k38 (map2 ev_c ev_c)) (rr_ret (dOf1b_any (27) _ (by decide) (by decide)) (lim64 (by decide) (by decide))) Rh.cl rfl fun vv3 w2 a st hF=>?_
 obtain⟨b5,ad5,n5,c5,ae5,m5,d5,rfl⟩:=Rr.form (st.f 0 rfl).1
 refine S.ck st hF (rgc k38 (map2 ev_c ev_c)) (rr_ret (dOf_any (4644439) (14438334) _ (by decide) (by decide) (by decide) (by decide)) (RLim.up (rlim_mk2 (limz_64 (by decide) (by decide)) (limz_64 (by decide) (by decide))) 2 (by decide))) Rh.cl rfl fun vv7 w6 a st hF=>?_
 obtain⟨b9,ad9,n9,c9,ae9,m9,d9,rfl⟩:=Rr.form (st.f 0 rfl).1
 refine S.ck st hF (rgc k62 (map2 (hF.at 1 rfl) (hF.at 0 rfl))) (hAddE (st.f 1 rfl) (st.f 0 rfl)) Rh.cl rfl fun vv11 w10 a st hF=>?_
 obtain⟨b13,ad13,n13,c13,ae13,m13,d13,rfl⟩:=Rr.form (st.f 0 rfl).1
 refine S.sto st hF 0 rfl (hF.at 3 rfl) (hF.at 0 rfl) ty_RRat rfl rfl rfl rfl fun w14 a st hF=>?_
 refine E.nil ?_
 refine wp_ret ?_
 refine S.ret Tryz.results232 st hF (hF.at 3 rfl) 0 rfl ty_RRat rfl hF.dfr ?_
 have bel:=st.bel
 exact⟨_,rfl,Rr.cast (Rr.up (st.f 0 rfl).1 _ (by omega)) (by decide+kernel),bel⟩
theorem rAnomalyYear11_any (w:World):
 Calls Tryz.prog 147 #[] w (RrPost w pay 7):=by
 have st:=St.start w
 refine E.enter (nt:=2) (L:=[]) Tryz.func147 rfl rfl rfl args_nil ?_
 intro a hF
 refine wp_seq ?_
 refine E.seq ?_
 refine S.alloc st hF ty_RRat rfl rfl fun g0 w1 a st hF=>?_
 refine E.nil ?_
 refine wp_seq ?_
 refine E.seq ?_
 refine S.ck st hF (rgc k38 (map2 ev_c ev_c)) (rr_ret (dOf_any (1577917828000) (4319999613) _ (by decide) (by decide) (by decide) (by decide)) (RLim.up (rlim_mk2 (limz_64 (by decide) (by decide)) (limz_64 (by decide) (by decide))) 2 (by decide))) Rh.cl rfl fun vv3 w2 a st hF=>?_
 obtain⟨b5,ad5,n5,c5,ae5,m5,d5,rfl⟩:=Rr.form (st.f 0 rfl).1
 refine S.sto st hF 0 rfl (hF.at 1 rfl) (hF.at 0 rfl) ty_RRat rfl rfl rfl rfl fun w6 a st hF=>?_
 refine E.nil ?_
 refine wp_ret ?_
 refine S.ret Tryz.results147 st hF (hF.at 1 rfl) 0 rfl ty_RRat rfl hF.dfr ?_
 have bel:=st.bel
 exact⟨_,rfl,Rr.cast (Rr.up (st.f 0 rfl).1 _ (by omega)) (by decide+kernel),bel⟩
theorem rAnomalyMonth11_any (w:World):
 Calls Tryz.prog 233 #[] w (RrPost w pam 7):=by
 have st:=St.start w
 refine E.enter (nt:=2) (L:=[]) Tryz.func233 rfl rfl rfl args_nil ?_
 intro a hF
 refine wp_seq ?_
 refine E.seq ?_
 refine S.alloc st hF ty_RRat rfl rfl fun g0 w1 a st hF=>?_
 refine E.nil ?_
 refine wp_seq ?_
 refine E.seq ?_
 refine S.ck st hF (rgc k38 (map2 ev_c ev_c)) (rr_ret (dOf_any (1577917828) (57265137) _ (by decide) (by decide) (by decide) (by decide)) (RLim.up (rlim_mk2 (limz_64 (by decide) (by decide)) (limz_64 (by decide) (by decide))) 2 (by decide))) Rh.cl rfl fun vv3 w2 a st hF=>?_
 obtain⟨b5,ad5,n5,c5,ae5,m5,d5,rfl⟩:=Rr.form (st.f 0 rfl).1
 refine S.sto st hF 0 rfl (hF.at 1 rfl) (hF.at 0 rfl) ty_RRat rfl rfl rfl rfl fun w6 a st hF=>?_
 refine E.nil ?_
 refine wp_ret ?_
 refine S.ret Tryz.results233 st hF (hF.at 1 rfl) 0 rfl ty_RRat rfl hF.dfr ?_
 have bel:=st.bel
 exact⟨_,rfl,Rr.cast (Rr.up (st.f 0 rfl).1 _ (by omega)) (by decide+kernel),bel⟩
theorem rCreation11_any (w:World):
 Calls Tryz.prog 229 #[] w (RrPost w cre 12):=by
 have st:=St.start w
 refine E.enter (nt:=6) (L:=[]) Tryz.func229 rfl rfl rfl args_nil ?_
 intro a hF
 refine wp_seq ?_
 refine E.seq ?_
 refine S.alloc st hF ty_RRat rfl rfl fun g0 w1 a st hF=>?_
 refine E.nil ?_
 refine wp_seq ?_
 refine E.seq ?_
 refine S.ck st hF (rgc k38 (map2 ev_c ev_c)) (rr_ret (dOf1b_any ((-1132959)) _ (by decide) (by decide)) (lim64 (by decide) (by decide))) Rh.cl rfl fun vv3 w2 a st hF=>?_
 obtain⟨b5,ad5,n5,c5,ae5,m5,d5,rfl⟩:=Rr.form (st.f 0 rfl).1
 refine S.ck st hF (rgc k38 (map2 ev_c ev_c)) (rr_ret (dOf1b_any (1955880000) _ (by decide) (by decide)) (lim64 (by decide) (by decide))) Rh.cl rfl fun vv7 w6 a st hF=>?_
 obtain⟨b9,ad9,n9,c9,ae9,m9,d9,rfl⟩:=Rr.form (st.f 0 rfl).1
 refine S.ck st hF (rgc k82 map0) (rr_ret (rYear11_any _) pyr_lim) Rh.cl rfl fun vv11 w10 a st hF=>?_
 obtain⟨b13,ad13,n13,c13,ae13,m13,d13,rfl⟩:=Rr.form (st.f 0 rfl).1
 refine S.ck st hF (rgc k63 (map2 (hF.at 1 rfl) (hF.at 0 rfl))) (hMulE (st.f 1 rfl) (st.f 0 rfl)) Rh.cl rfl fun vv15 w14 a st hF=>?_
 obtain⟨b17,ad17,n17,c17,ae17,m17,d17,rfl⟩:=Rr.form (st.f 0 rfl).1
 refine S.ck st hF (rgc k80 (map2 (hF.at 3 rfl) (hF.at 0 rfl))) (hSubE (st.f 3 rfl) (st.f 0 rfl)) Rh.cl rfl fun vv19 w18 a st hF=>?_
 obtain⟨b21,ad21,n21,c21,ae21,m21,d21,rfl⟩:=Rr.form (st.f 0 rfl).1
 refine S.sto st hF 0 rfl (hF.at 5 rfl) (hF.at 0 rfl) ty_RRat rfl rfl rfl rfl fun w22 a st hF=>?_
 refine E.nil ?_
 refine wp_ret ?_
 refine S.ret Tryz.results229 st hF (hF.at 5 rfl) 0 rfl ty_RRat rfl hF.dfr ?_
 have bel:=st.bel
 exact⟨_,rfl,Rr.cast (Rr.up (st.f 0 rfl).1 _ (by omega)) (by decide+kernel),bel⟩
theorem rMof_any (v1 v2:Value) (q1 q2:Rat) (k j i l:Nat) (w:World) (h1:Rr w v1 q1 k) (h2:Rr w v2 q2 j) (li1:RLim q1 i) (li2:RLim q2 l) (hp:1≤k) (hp2:1≤j) (hk:k≤1000) (hj:j≤100) (hi:i≤100) (hl:l≤100):
 Calls Tryz.prog 190 #[v1,v2] w (RrPost w (mof q1 q2) (k+j+i+l+30)):=by
 obtain⟨b1,ad1,n1,c1,ae1,m1,d1,z1,D1,rfl,hn1,hd1,hD1,hq1,lz1,lD1⟩:=h1.shape
 have h1:Rr w (.agg #[.bool b1,.slice ad1 n1 c1,.slice ae1 m1 d1]) q1 k:=⟨_,_,_,_,_,_,_,_,_,rfl,hn1,hd1,hD1,hq1,lz1,lD1⟩
 have ha1:=hn1.abs
 have hb1:=hn1.neg
 replace hq1:=Lib.hid hq1
 obtain⟨b2,ad2,n2,c2,ae2,m2,d2,z2,D2,rfl,hn2,hd2,hD2,hq2,lz2,lD2⟩:=h2.shape
 have h2:Rr w (.agg #[.bool b2,.slice ad2 n2 c2,.slice ae2 m2 d2]) q2 j:=⟨_,_,_,_,_,_,_,_,_,rfl,hn2,hd2,hD2,hq2,lz2,lD2⟩
 have ha2:=hn2.abs
 have hb2:=hn2.neg
 replace hq2:=Lib.hid hq2
 by_cases h0:sz (Rat.num (q2))≤0
 ·have st:=St.start w
  refine E.enter (nt:=22) (L:=[(0,.agg #[.bool b1,.slice ad1 n1 c1,.slice ae1 m1 d1]),(1,.agg #[.bool b2,.slice ad2 n2 c2,.slice ae2 m2 d2])]) Tryz.func190 rfl rfl rfl (args_cons (i:=0) rfl (args_cons (i:=1) rfl args_nil)) ?_
  intro a hF
  refine wp_seq ?_
  refine E.seq ?_
  refine S.box st hF (hF.at 0 rfl) rfl rfl fun g2 w1 a st hF=>?_
  refine S.box st hF (hF.at 2 rfl) rfl rfl fun g3 w2 a st hF=>?_
  refine S.alloc st hF ty_RRat rfl rfl fun g4 w3 a st hF=>?_
  refine E.nil ?_
  refine wp_seq ?_
  refine wp_seq ?_
  refine E.seq ?_
  refine E.opv hF (r_load (hF.at 1 rfl) (ld_all ty_RRat (st.bk 1 rfl) rfl)) rfl rfl rfl rfl fun a hF=>?_
  refine S.callx st hF (rgc k193 (map1 (hF.at 0 rfl))) (dSgn_any _ (q2) j _ (h2.below st.bel)) rfl rfl rfl rfl fun w4 a st hF=>?_
  refine E.opv hF (r_bin (hF.at 0 rfl) ev_c eg_scalar (bi_int (ic_leq (c:=true) (dec_tt h0)) (by simp))) rfl rfl rfl rfl fun a hF=>?_
  refine E.nil ?_
  refine wp_cond_true (hF.at 0 rfl) ?_
  refine wp_seq ?_
  refine E.seq ?_
  refine S.ck st hF (rgc k38 (map2 ev_c ev_c)) (rr_ret (dOf1b_any (0) _ (by decide) (by decide)) (lim64 (by decide) (by decide))) Rh.cl rfl fun vv6 w5 a st hF=>?_
  obtain⟨b8,ad8,n8,c8,ae8,m8,d8,rfl⟩:=Rr.form (st.f 0 rfl).1
  refine S.sto st hF 0 rfl (hF.at 4 rfl) (hF.at 0 rfl) ty_RRat rfl rfl rfl rfl fun w9 a st hF=>?_
  refine E.nil ?_
  refine wp_ret ?_
  refine S.ret Tryz.results190 st hF (hF.at 4 rfl) 0 rfl ty_RRat rfl hF.dfr ?_
  have bel:=st.bel
  exact⟨_,rfl,Rr.cast (Rr.up (st.f 0 rfl).1 _ (by omega)) (Rat.intCast_zero.trans (mof_no h0)),bel⟩
 ·have st:=St.start w
  refine E.enter (nt:=22) (L:=[(0,.agg #[.bool b1,.slice ad1 n1 c1,.slice ae1 m1 d1]),(1,.agg #[.bool b2,.slice ad2 n2 c2,.slice ae2 m2 d2])]) Tryz.func190 rfl rfl rfl (args_cons (i:=0) rfl (args_cons (i:=1) rfl args_nil)) ?_
  intro a hF
  refine wp_seq ?_
  refine E.seq ?_
  refine S.box st hF (hF.at 0 rfl) rfl rfl fun g2 w1 a st hF=>?_
  refine S.box st hF (hF.at 2 rfl) rfl rfl fun g3 w2 a st hF=>?_
  refine S.alloc st hF ty_RRat rfl rfl fun g4 w3 a st hF=>?_
  refine E.nil ?_
  refine wp_seq ?_
  refine wp_seq ?_
  refine E.seq ?_
  refine E.opv hF (r_load (hF.at 1 rfl) (ld_all ty_RRat (st.bk 1 rfl) rfl)) rfl rfl rfl rfl fun a hF=>?_
  refine S.callx st hF (rgc k193 (map1 (hF.at 0 rfl))) (dSgn_any _ (q2) j _ (h2.below st.bel)) rfl rfl rfl rfl fun w4 a st hF=>?_
  refine E.opv hF (r_bin (hF.at 0 rfl) ev_c eg_scalar (bi_int (ic_leq (c:=false) (dec_ff h0)) (by simp))) rfl rfl rfl rfl fun a hF=>?_
  refine E.nil ?_
  refine wp_cond_false (hF.at 0 rfl) ?_
  refine wp_skip ?_
  refine E.norm ?_
  refine wp_seq ?_
  refine E.rga 6 mixed hF [10,11,12,13,14,5] [_,_,_,_,_,kn w4 [.bool false,.slice none 0 0,.slice none 0 0]] [5] ⟨fun _ _ ⟨g,e,_,o⟩=>⟨g,e,o.lt⟩,trivial⟩ (by decide+kernel) rfl rfl rfl ⟨rb st ty_RRat 5 2 rfl,ck st k229 rfl fun _ s=>rr_ret (rCreation11_any _) cre_lim,ck st k80 rfl fun _ s _ x11=>hSubE ⟨(h1.below s.bel),li1⟩ x11,rb st ty_RRat 4 1 rfl,ck st k81 rfl fun _ s _ x12=>hDivE x12 ⟨(h2.below s.bel),li2⟩,ra ty_RRat rfl rfl,trivial⟩ ?_
  intro a w5 hF bb hall hne
  have s0:=st
  replace st:=st.to bb
  obtain⟨vv6,hF,st⟩:=rS hall hF st 4 rfl rfl Rh.cl
  obtain⟨b8,ad8,n8,c8,ae8,m8,d8,rfl⟩:=Rr.form (st.f 0 rfl).1
  obtain⟨_,e5,g5,rfl,ge5,o5⟩:=sS hall 5 5 rfl rfl
  replace st:=st.push o5.blk (Nat.le_trans s0.bel.size ge5) (s0.ne ge5)
  clear o5
  replace hF:=hF.add e5
  clear hall bb hne s0
  refine S.sto st hF 0 rfl (hF.at 0 rfl) (hF.at 1 rfl) ty_RRat rfl rfl rfl rfl fun w9 a st hF=>?_
  refine E.nil ?_
  refine wp_seq ?_
  refine E.rg 7 mixed hF [15,16,17,18,19,20,21] [_,_,_,_,_,_,_] (by decide+kernel) rfl rfl rfl ⟨rb st ty_RRat 0 0 rfl,rb st ty_RRat 0 0 rfl,ck st k125 rfl fun _ s=>rz_ret (dFloor_any _ (((q1)-(cre))/(q2)) ((k+12+1)+j) _ (s.f 0 rfl).1 (by omega) (by omega)) (fl_lim (s.f 0 rfl).2),ck st k124 rfl fun _ s _ x17=>rr_ret (dWhole_any _ (Rat.floor (((q1)-(cre))/(q2))) ((((i+2+1)+l)+1)+1) _ x17.1 (Lim.up x17.2 _ (by omega)) (by omega)) (rlim_int (Lim.up x17.2 ((((i+2+1)+l)+1)+1) (by omega)) (by omega)),ck st k80 rfl fun _ s _ x18=>hSubE (s.f 0 rfl) x18,ck st k38 rfl fun _ s=>rr_ret (dOf1b_any (360) _ (by decide) (by decide)) (lim64 (by decide) (by decide)),ck st k63 rfl fun _ s _ x19 _ x20=>hMulE x19 x20,trivial⟩ ?_
  intro a w10 hF bb hall
  replace st:=st.to bb
  obtain⟨vv11,hF,st⟩:=rS hall hF st 6 rfl rfl Rh.cl
  obtain⟨b13,ad13,n13,c13,ae13,m13,d13,rfl⟩:=Rr.form (st.f 0 rfl).1
  clear hall bb
  refine S.sto st hF 1 rfl (hF.at 6 rfl) (hF.at 0 rfl) ty_RRat rfl rfl rfl rfl fun w14 a st hF=>?_
  refine E.nil ?_
  refine wp_ret ?_
  refine S.ret Tryz.results190 st hF (hF.at 6 rfl) 1 rfl ty_RRat rfl hF.dfr ?_
  have bel:=st.bel
  exact⟨_,rfl,Rr.cast (Rr.up (st.f 0 rfl).1 _ (by omega)) (mof_yes h0),bel⟩
theorem hYearG {w:World}:Calls Tryz.prog 82 #[] w (Ret (kh (pyr) (7) (2)) w):=rr_ret (rYear11_any _) pyr_lim
theorem hMonthG {w:World}:Calls Tryz.prog 232 #[] w (Ret (kh (pmo) (7) (2)) w):=rr_ret (rMonth11_any _) pmo_lim
theorem hAnomalyYearG {w:World}:Calls Tryz.prog 147 #[] w (Ret (kh (pay) (7) (2)) w):=rr_ret (rAnomalyYear11_any _) pay_lim
theorem hAnomalyMonthG {w:World}:Calls Tryz.prog 233 #[] w (Ret (kh (pam) (7) (2)) w):=rr_ret (rAnomalyMonth11_any _) pam_lim
theorem hOfG {v1 v2:Value} {p1 p2:Rat} {k1 i1 k2 i2:Nat} {w:World} (x1:Rh p1 k1 i1 w v1) (x2:Rh p2 k2 i2 w v2) (a1:k1≤1000:=by omega) (b1:1≤k1:=by omega) (c1:i1≤100:=by omega) (a2:k2≤100:=by omega) (b2:1≤k2:=by omega) (c2:i2≤100:=by omega):Calls Tryz.prog 190 #[v1,v2] w (Ret (kh (mof (p1) (p2)) ((k1+k2+i1+i2+30)) ((i1+i2+5))) w):=rr_ret (rMof_any _ _ (p1) (p2) k1 k2 i1 i2 _ x1.1 x2.1 x1.2 x2.2 (by omega) (by omega) (by omega) (by omega) (by omega) (by omega)) (mof_lim x1.2 x2.2)
end Go.Proofs.YtnljadejcfgmaaaGreatDoor
