import Derived.Test.YtplngpfpcheofaaGreatDoorKA22
namespace Go.Proofs.YtplngpfpcheofaaGreatDoor
open Go.RowKit
set_option maxRecDepth 100000
set_option linter.unusedVariables false
set_option maxHeartbeats 8000000
theorem en136:(Tryz.f136.name == "runtime.NumGoroutine")=false∧Tryz.f136.body.isNone=false:=⟨by decide+kernel,by kernel_rfl⟩
theorem en132:(Tryz.f132.name == "runtime.NumGoroutine")=false∧Tryz.f132.body.isNone=false:=⟨by decide+kernel,by kernel_rfl⟩
theorem en137:(Tryz.f137.name == "runtime.NumGoroutine")=false∧Tryz.f137.body.isNone=false:=⟨by decide+kernel,by kernel_rfl⟩
theorem en133:(Tryz.f133.name == "runtime.NumGoroutine")=false∧Tryz.f133.body.isNone=false:=⟨by decide+kernel,by kernel_rfl⟩
theorem en178:(Tryz.f178.name == "runtime.NumGoroutine")=false∧Tryz.f178.body.isNone=false:=⟨by decide+kernel,by kernel_rfl⟩
theorem en163:(Tryz.f163.name == "runtime.NumGoroutine")=false∧Tryz.f163.body.isNone=false:=⟨by decide+kernel,by kernel_rfl⟩
theorem en134:(Tryz.f134.name == "runtime.NumGoroutine")=false∧Tryz.f134.body.isNone=false:=⟨by decide+kernel,by kernel_rfl⟩
theorem mYear_any (w:World):
 Calls Tryz.prog 136 #[] w (RqPost w pyr):=by
 have st:=St.start w
 refine E.enter (nt:=2) (L:=[]) Tryz.func136 rfl rfl rfl args_nil ?_
 intro a hF
 refine wp_seq ?_
 refine E.seq ?_
 refine S.alloc st hF ty_Rat rfl rfl fun g0 w1 a st hF=>?_
 refine E.nil ?_
 refine wp_seq ?_
 refine E.seq ?_
 refine S.call st hF (r_call Tryz.func22 en22.1 en22.2 (map2 ev_c ev_c)) (rOf2_any (1577917828000) (4320000000) _ (by decide) (by decide) (by decide) (by decide)) (fun _ _ h=>h) Rq.cl rfl rfl rfl rfl fun vv3 w2 a st hF=>?_
 obtain⟨b5,ad5,n5,c5,ae5,m5,d5,rfl⟩:=Rq.form (st.f 0 rfl)
 refine S.sto st hF 0 rfl (hF.at 1 rfl) (hF.at 0 rfl) ty_Rat rfl rfl rfl rfl fun w6 a st hF=>?_
 refine E.nil ?_
 refine wp_ret ?_
 refine S.ret Tryz.results136 st hF (hF.at 1 rfl) 0 rfl ty_Rat rfl hF.dfr ?_
 have bel:=st.bel
 exact⟨_,rfl,(st.f 0 rfl),bel⟩
theorem mMonth_any (w:World):
 Calls Tryz.prog 132 #[] w (RqPost w pmo):=by
 have st:=St.start w
 refine E.enter (nt:=2) (L:=[]) Tryz.func132 rfl rfl rfl args_nil ?_
 intro a hF
 refine wp_seq ?_
 refine E.seq ?_
 refine S.alloc st hF ty_Rat rfl rfl fun g0 w1 a st hF=>?_
 refine E.nil ?_
 refine wp_seq ?_
 refine E.seq ?_
 refine S.call st hF (r_call Tryz.func22 en22.1 en22.2 (map2 ev_c ev_c)) (rOf2_any (1577917828) (57753336) _ (by decide) (by decide) (by decide) (by decide)) (fun _ _ h=>h) Rq.cl rfl rfl rfl rfl fun vv3 w2 a st hF=>?_
 obtain⟨b5,ad5,n5,c5,ae5,m5,d5,rfl⟩:=Rq.form (st.f 0 rfl)
 refine S.sto st hF 0 rfl (hF.at 1 rfl) (hF.at 0 rfl) ty_Rat rfl rfl rfl rfl fun w6 a st hF=>?_
 refine E.nil ?_
 refine wp_ret ?_
 refine S.ret Tryz.results132 st hF (hF.at 1 rfl) 0 rfl ty_Rat rfl hF.dfr ?_
 have bel:=st.bel
 exact⟨_,rfl,(st.f 0 rfl),bel⟩
theorem mAnomalyYear_any (w:World):
 Calls Tryz.prog 137 #[] w (RqPost w pay):=by
 have st:=St.start w
 refine E.enter (nt:=2) (L:=[]) Tryz.func137 rfl rfl rfl args_nil ?_
 intro a hF
 refine wp_seq ?_
 refine E.seq ?_
 refine S.alloc st hF ty_Rat rfl rfl fun g0 w1 a st hF=>?_
 refine E.nil ?_
 refine wp_seq ?_
 refine E.seq ?_
 refine S.call st hF (r_call Tryz.func22 en22.1 en22.2 (map2 ev_c ev_c)) (rOf2_any (1577917828000) (4319999613) _ (by decide) (by decide) (by decide) (by decide)) (fun _ _ h=>h) Rq.cl rfl rfl rfl rfl fun vv3 w2 a st hF=>?_
 obtain⟨b5,ad5,n5,c5,ae5,m5,d5,rfl⟩:=Rq.form (st.f 0 rfl)
 refine S.sto st hF 0 rfl (hF.at 1 rfl) (hF.at 0 rfl) ty_Rat rfl rfl rfl rfl fun w6 a st hF=>?_
 refine E.nil ?_
 refine wp_ret ?_
 refine S.ret Tryz.results137 st hF (hF.at 1 rfl) 0 rfl ty_Rat rfl hF.dfr ?_
 have bel:=st.bel
 exact⟨_,rfl,(st.f 0 rfl),bel⟩
theorem mAnomalyMonth_any (w:World):
 Calls Tryz.prog 133 #[] w (RqPost w pam):=by
 have st:=St.start w
 refine E.enter (nt:=2) (L:=[]) Tryz.func133 rfl rfl rfl args_nil ?_
 intro a hF
 refine wp_seq ?_
 refine E.seq ?_
 refine S.alloc st hF ty_Rat rfl rfl fun g0 w1 a st hF=>?_
 refine E.nil ?_
 refine wp_seq ?_
 refine E.seq ?_
 refine S.call st hF (r_call Tryz.func22 en22.1 en22.2 (map2 ev_c ev_c)) (rOf2_any (1577917828) (57265137) _ (by decide) (by decide) (by decide) (by decide)) (fun _ _ h=>h) Rq.cl rfl rfl rfl rfl fun vv3 w2 a st hF=>?_
 obtain⟨b5,ad5,n5,c5,ae5,m5,d5,rfl⟩:=Rq.form (st.f 0 rfl)
 refine S.sto st hF 0 rfl (hF.at 1 rfl) (hF.at 0 rfl) ty_Rat rfl rfl rfl rfl fun w6 a st hF=>?_
 refine E.nil ?_
 refine wp_ret ?_
 refine S.ret Tryz.results133 st hF (hF.at 1 rfl) 0 rfl ty_Rat rfl hF.dfr ?_
 have bel:=st.bel
 exact⟨_,rfl,(st.f 0 rfl),bel⟩
theorem mCreation_any (w:World):
 Calls Tryz.prog 178 #[] w (RqPost w cre):=by
 have st:=St.start w
 refine E.enter (nt:=2) (L:=[]) Tryz.func178 rfl rfl rfl args_nil ?_
 intro a hF
 refine wp_seq ?_
 refine E.seq ?_
 refine S.alloc st hF ty_Rat rfl rfl fun g0 w1 a st hF=>?_
 refine E.nil ?_
 refine wp_seq ?_
 refine E.seq ?_
 refine S.call st hF (r_call Tryz.func20 en20.1 en20.2 (map1 ev_c)) (rWhole_any ((-714403429586)) _ (by decide) (by decide)) (fun _ _ h=>h) Rq.cl rfl rfl rfl rfl fun vv3 w2 a st hF=>?_
 obtain⟨b5,ad5,n5,c5,ae5,m5,d5,rfl⟩:=Rq.form (st.f 0 rfl)
 refine S.sto st hF 0 rfl (hF.at 1 rfl) (hF.at 0 rfl) ty_Rat rfl rfl rfl rfl fun w6 a st hF=>?_
 refine E.nil ?_
 refine wp_ret ?_
 refine S.ret Tryz.results178 st hF (hF.at 1 rfl) 0 rfl ty_Rat rfl hF.dfr ?_
 have bel:=st.bel
 exact⟨_,rfl,(st.f 0 rfl),bel⟩
theorem mTurns_any (v1 v2:Value) (qt qp:Rat) (k j:Nat) (w:World) (h1:Rq w v1 qt) (h2:Rq w v2 qp) (hl:RLim qt k) (hm:RLim qp j) (hk:k≤400) (hj:j≤400):
 Calls Tryz.prog 163 #[v1,v2] w (RqPost w (mturn qt qp)):=by
 have st:=St.start w
 refine E.enter (nt:=10) (L:=[(0,v1),(1,v2)]) Tryz.func163 rfl rfl rfl (args_cons (i:=0) rfl (args_cons (i:=1) rfl args_nil)) ?_
 intro a hF
 refine wp_seq ?_
 refine E.seq ?_
 obtain⟨b2,ad2,n2,c2,ae2,m2,d2,rfl⟩:=Rq.form h1
 refine S.box st hF (hF.at 0 rfl) rfl rfl fun g2 w1 a st hF=>?_
 obtain⟨b4,ad4,n4,c4,ae4,m4,d4,rfl⟩:=Rq.form h2
 refine S.box st hF (hF.at 2 rfl) rfl rfl fun g3 w3 a st hF=>?_
 refine S.alloc st hF ty_Rat rfl rfl fun g4 w5 a st hF=>?_
 refine E.nil ?_
 refine wp_seq ?_
 refine E.drawn 5 mixed hF [5,6,7,8,9] [(fun _ v=>v= .agg #[.bool b2,.slice ad2 n2 c2,.slice ae2 m2 d2]),(fun w v=>Rq w v (cre)),(fun w v=>Rq w v ((qt)-(cre))),(fun _ v=>v= .agg #[.bool b4,.slice ad4 n4 c4,.slice ae4 m4 d4]),(fun w v=>Rq w v (((qt)-(cre))/(qp)))] [] (by decide+kernel) (by decide+kernel) rfl rfl rfl ⟨(Mb.eq _),(fun _ _ _ h hb=>h.below hb),(fun _ _ _ h hb=>h.below hb),(Mb.eq _),(fun _ _ _ h hb=>h.below hb),trivial⟩ trivial ⟨?_,?_,?_,?_,?_,trivial⟩ ?_
 ·intro a' w' hF' hb hd
  exact dv0 (r_load (hF'.at 2 rfl) (ld_all ty_Rat ((st.bk 2 rfl).below hb) rfl)) rfl rfl rfl
 ·intro a' w' hF' hb hd
  exact dc0 (r_call Tryz.func178 en178.1 en178.2 map0) (mCreation_any _) rfl rfl
 ·intro a' w' hF' hb hd
  have e5:=sHe hd 0 5 rfl rfl rfl rfl
  obtain⟨v6_0,e6,h6_1⟩:=sH hd 1 6 rfl rfl rfl rfl
  exact dc0 (r_call Tryz.func37 en37.1 en37.2 (map2 e5 e6)) (rSub_any _ _ (qt) (cre) (max k 2) _ (h1.below (below_to st.bel hb)) h6_1 (hl.up _ (by omega)) (cre_lim.up _ (by omega)) (by omega)) rfl rfl
 ·intro a' w' hF' hb hd
  exact dv0 (r_load (hF'.at 1 rfl) (ld_all ty_Rat ((st.bk 1 rfl).below hb) rfl)) rfl rfl rfl
 ·intro a' w' hF' hb hd
  obtain⟨v7_0,e7,h7_1⟩:=sH hd 0 7 rfl rfl rfl rfl
  have e8:=sHe hd 1 8 rfl rfl rfl rfl
  exact dc0 (r_call Tryz.func131 en131.1 en131.2 (map2 e7 e8)) (rDiv_any _ _ _ (qp) (max (k+2+1) j) _ h7_1 (h2.below (below_to st.bel hb)) ((rlim_sub hl cre_lim).up _ (by omega)) (hm.up _ (by omega)) (by omega)) rfl rfl
 intro a w6 hF bb hall hne
 replace st:=st.to bb
 obtain⟨vv7,e9,hh8⟩:=sS hall 4 9 rfl rfl
 replace st:=st.add hh8 (Rq.cl _)
 clear hh8
 clear hall hne bb
 obtain⟨b9,ad9,n9,c9,ae9,m9,d9,rfl⟩:=Rq.form (st.f 0 rfl)
 replace hF:=hF.add e9
 clear e9
 refine S.sto st hF 0 rfl (hF.at 1 rfl) (hF.at 0 rfl) ty_Rat rfl rfl rfl rfl fun w10 a st hF=>?_
 refine E.nil ?_
 refine wp_ret ?_
 refine S.ret Tryz.results163 st hF (hF.at 1 rfl) 0 rfl ty_Rat rfl hF.dfr ?_
 have bel:=st.bel
 exact⟨_,rfl,(st.f 0 rfl),bel⟩
theorem mof_no {t p:Rat} (h:sz p.num≤0):(0:Rat)=mof t p:=by unfold mof;rw[if_pos (sz_le0.1 h)]
theorem mof_yes {t p:Rat} (h:¬sz p.num≤0):(mturn t p-(((mturn t p).floor :Int):Rat))*((360:Int):Rat)=mof t p:=by unfold mof mfr;rw[if_neg (fun e=>h (sz_le0.2 e))]
theorem mOf_any (v1 v2:Value) (qt qp:Rat) (k j:Nat) (w:World) (h1:Rq w v1 qt) (h2:Rq w v2 qp) (hl:RLim qt k) (hm:RLim qp j) (hk:k≤400) (hj:j≤400):
 Calls Tryz.prog 134 #[v1,v2] w (RqPost w (mof qt qp)):=by
 by_cases h0:sz (Rat.num (qp))≤0
 ·have st:=St.start w
  refine E.enter (nt:=15) (L:=[(0,v1),(1,v2)]) Tryz.func134 rfl rfl rfl (args_cons (i:=0) rfl (args_cons (i:=1) rfl args_nil)) ?_
  intro a hF
  refine wp_seq ?_
  refine E.seq ?_
  obtain⟨b2,ad2,n2,c2,ae2,m2,d2,rfl⟩:=Rq.form h1
  refine S.box st hF (hF.at 0 rfl) rfl rfl fun g2 w1 a st hF=>?_
  obtain⟨b4,ad4,n4,c4,ae4,m4,d4,rfl⟩:=Rq.form h2
  refine S.box st hF (hF.at 2 rfl) rfl rfl fun g3 w3 a st hF=>?_
  refine S.alloc st hF ty_Rat rfl rfl fun g4 w5 a st hF=>?_
  refine E.nil ?_
  refine wp_seq ?_
  refine wp_seq ?_
  refine E.seq ?_
  refine E.opv hF (r_load (hF.at 1 rfl) (ld_all ty_Rat (st.bk 1 rfl) rfl)) rfl rfl rfl rfl fun a hF=>?_
  refine S.callx st hF (r_call Tryz.func32 en32.1 en32.2 (map1 (hF.at 0 rfl))) (rsgn_any _ (qp) _ (h2.below st.bel)) rfl rfl rfl rfl fun w6 a st hF=>?_
  refine E.opv hF (r_bin (hF.at 0 rfl) ev_c eg_scalar (bi_int (ic_leq (c:=true) (dec_tt h0)) (by simp))) rfl rfl rfl rfl fun a hF=>?_
  refine E.nil ?_
  refine wp_cond_true (hF.at 0 rfl) ?_
  refine wp_seq ?_
  refine E.seq ?_
  refine E.opv hF (r_build (by simp) (bd_Rat_ _)) rfl rfl rfl rfl fun a hF=>?_
  refine S.sto st hF 0 rfl (hF.at 4 rfl) (hF.at 0 rfl) ty_Rat rfl rfl rfl rfl fun w7 a st hF=>?_
  refine E.nil ?_
  refine wp_ret ?_
  refine S.ret Tryz.results134 st hF (hF.at 4 rfl) 0 rfl ty_Rat rfl hF.dfr ?_
  have bel:=st.bel
  exact⟨_,rfl,Rq.castM (Rq.zero _) (mof_no h0),bel⟩
 ·have st:=St.start w
  refine E.enter (nt:=15) (L:=[(0,v1),(1,v2)]) Tryz.func134 rfl rfl rfl (args_cons (i:=0) rfl (args_cons (i:=1) rfl args_nil)) ?_
  intro a hF
  refine wp_seq ?_
  refine E.seq ?_
  obtain⟨b2,ad2,n2,c2,ae2,m2,d2,rfl⟩:=Rq.form h1
  refine S.box st hF (hF.at 0 rfl) rfl rfl fun g2 w1 a st hF=>?_
  obtain⟨b4,ad4,n4,c4,ae4,m4,d4,rfl⟩:=Rq.form h2
  refine S.box st hF (hF.at 2 rfl) rfl rfl fun g3 w3 a st hF=>?_
  refine S.alloc st hF ty_Rat rfl rfl fun g4 w5 a st hF=>?_
  refine E.nil ?_
  refine wp_seq ?_
  refine wp_seq ?_
  refine E.seq ?_
  refine E.opv hF (r_load (hF.at 1 rfl) (ld_all ty_Rat (st.bk 1 rfl) rfl)) rfl rfl rfl rfl fun a hF=>?_
  refine S.callx st hF (r_call Tryz.func32 en32.1 en32.2 (map1 (hF.at 0 rfl))) (rsgn_any _ (qp) _ (h2.below st.bel)) rfl rfl rfl rfl fun w6 a st hF=>?_
  refine E.opv hF (r_bin (hF.at 0 rfl) ev_c eg_scalar (bi_int (ic_leq (c:=false) (dec_ff h0)) (by simp))) rfl rfl rfl rfl fun a hF=>?_
  refine E.nil ?_
  refine wp_cond_false (hF.at 0 rfl) ?_
  refine wp_skip ?_
  refine E.norm ?_
  refine wp_seq ?_
  refine E.seq ?_
  refine E.opv hF (r_load (hF.at 5 rfl) (ld_all ty_Rat (st.bk 2 rfl) rfl)) rfl rfl rfl rfl fun a hF=>?_
  refine E.opv hF (r_load (hF.at 5 rfl) (ld_all ty_Rat (st.bk 1 rfl) rfl)) rfl rfl rfl rfl fun a hF=>?_
  refine S.call st hF (r_call Tryz.func163 en163.1 en163.2 (map2 (hF.at 1 rfl) (hF.at 0 rfl))) (mTurns_any _ _ (qt) (qp) k j _ (h1.below st.bel) (h2.below st.bel) hl hm (by omega) (by omega)) (fun _ _ h=>h) Rq.cl rfl rfl rfl rfl fun vv8 w7 a st hF=>?_
  obtain⟨b10,ad10,n10,c10,ae10,m10,d10,rfl⟩:=Rq.form (st.f 0 rfl)
  refine S.call st hF (r_call Tryz.func162 en162.1 en162.2 (map1 (hF.at 0 rfl))) (cFrac_any _ _ (k+j+3) _ (st.f 0 rfl) (mturn_lim hl hm) (by omega)) (fun _ _ h=>h) Rq.cl rfl rfl rfl rfl fun vv12 w11 a st hF=>?_
  obtain⟨b14,ad14,n14,c14,ae14,m14,d14,rfl⟩:=Rq.form (st.f 0 rfl)
  refine S.call st hF (r_call Tryz.func20 en20.1 en20.2 (map1 ev_c)) (rWhole_any (360) _ (by decide) (by decide)) (fun _ _ h=>h) Rq.cl rfl rfl rfl rfl fun vv16 w15 a st hF=>?_
  obtain⟨b18,ad18,n18,c18,ae18,m18,d18,rfl⟩:=Rq.form (st.f 0 rfl)
  refine S.call st hF (r_call Tryz.func104 en104.1 en104.2 (map2 (hF.at 1 rfl) (hF.at 0 rfl))) (rMul_any _ _ _ _ (max (k+j+3) 2) _ (st.f 1 rfl) (st.f 0 rfl) ((mfr_lim (mturn_lim hl hm)).up _ (by omega)) ((rlim_int (limz_64 (by decide) (by decide)) (by omega)).up _ (by omega)) (by omega)) (fun _ _ h=>h) Rq.cl rfl rfl rfl rfl fun vv20 w19 a st hF=>?_
  obtain⟨b22,ad22,n22,c22,ae22,m22,d22,rfl⟩:=Rq.form (st.f 0 rfl)
  refine S.sto st hF 0 rfl (hF.at 9 rfl) (hF.at 0 rfl) ty_Rat rfl rfl rfl rfl fun w23 a st hF=>?_
  refine E.nil ?_
  refine wp_ret ?_
  refine S.ret Tryz.results134 st hF (hF.at 9 rfl) 0 rfl ty_Rat rfl hF.dfr ?_
  have bel:=st.bel
  exact⟨_,rfl,Rq.castM (st.f 0 rfl) (mof_yes h0),bel⟩
end Go.Proofs.YtplngpfpcheofaaGreatDoor
