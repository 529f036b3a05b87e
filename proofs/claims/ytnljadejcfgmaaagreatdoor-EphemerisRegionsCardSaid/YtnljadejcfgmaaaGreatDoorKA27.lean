import Derived.Test.YtnljadejcfgmaaaGreatDoorKA26
namespace Go.Proofs.YtnljadejcfgmaaaGreatDoor
open Go.RowKit
set_option maxRecDepth 100000
set_option linter.unusedVariables false
set_option maxHeartbeats 8000000
theorem k15:CallOk Tryz.prog 15:=⟨_,Tryz.func15,by decide+kernel,by kernel_rfl⟩
theorem k143:CallOk Tryz.prog 143:=⟨_,Tryz.func143,by decide+kernel,by kernel_rfl⟩
theorem k187:CallOk Tryz.prog 187:=⟨_,Tryz.func187,by decide+kernel,by kernel_rfl⟩
theorem k32:CallOk Tryz.prog 32:=⟨_,Tryz.func32,by decide+kernel,by kernel_rfl⟩
theorem k238:CallOk Tryz.prog 238:=⟨_,Tryz.func238,by decide+kernel,by kernel_rfl⟩
theorem k203:CallOk Tryz.prog 203:=⟨_,Tryz.func203,by decide+kernel,by kernel_rfl⟩
theorem k224:CallOk Tryz.prog 224:=⟨_,Tryz.func224,by decide+kernel,by kernel_rfl⟩
theorem k56:CallOk Tryz.prog 56:=⟨_,Tryz.func56,by decide+kernel,by kernel_rfl⟩
theorem k30:CallOk Tryz.prog 30:=⟨_,Tryz.func30,by decide+kernel,by kernel_rfl⟩
theorem k75:CallOk Tryz.prog 75:=⟨_,Tryz.func75,by decide+kernel,by kernel_rfl⟩
theorem k58:CallOk Tryz.prog 58:=⟨_,Tryz.func58,by decide+kernel,by kernel_rfl⟩
theorem k121:CallOk Tryz.prog 121:=⟨_,Tryz.func121,by decide+kernel,by kernel_rfl⟩
theorem k52:CallOk Tryz.prog 52:=⟨_,Tryz.func52,by decide+kernel,by kernel_rfl⟩
theorem k141:CallOk Tryz.prog 141:=⟨_,Tryz.func141,by decide+kernel,by kernel_rfl⟩
theorem k57:CallOk Tryz.prog 57:=⟨_,Tryz.func57,by decide+kernel,by kernel_rfl⟩
theorem k79:CallOk Tryz.prog 79:=⟨_,Tryz.func79,by decide+kernel,by kernel_rfl⟩
theorem k89:CallOk Tryz.prog 89:=⟨_,Tryz.func89,by decide+kernel,by kernel_rfl⟩
theorem k117:CallOk Tryz.prog 117:=⟨_,Tryz.func117,by decide+kernel,by kernel_rfl⟩
theorem k221:CallOk Tryz.prog 221:=⟨_,Tryz.func221,by decide+kernel,by kernel_rfl⟩
theorem k254:CallOk Tryz.prog 254:=⟨_,Tryz.func254,by decide+kernel,by kernel_rfl⟩
theorem k220:CallOk Tryz.prog 220:=⟨_,Tryz.func220,by decide+kernel,by kernel_rfl⟩
theorem k116:CallOk Tryz.prog 116:=⟨_,Tryz.func116,by decide+kernel,by kernel_rfl⟩
theorem k77:CallOk Tryz.prog 77:=⟨_,Tryz.func77,by decide+kernel,by kernel_rfl⟩
theorem k247:CallOk Tryz.prog 247:=⟨_,Tryz.func247,by decide+kernel,by kernel_rfl⟩
theorem k245:CallOk Tryz.prog 245:=⟨_,Tryz.func245,by decide+kernel,by kernel_rfl⟩
theorem k14:CallOk Tryz.prog 14:=⟨_,Tryz.func14,by decide+kernel,by kernel_rfl⟩
theorem k50:CallOk Tryz.prog 50:=⟨_,Tryz.func50,by decide+kernel,by kernel_rfl⟩
theorem k13:CallOk Tryz.prog 13:=⟨_,Tryz.func13,by decide+kernel,by kernel_rfl⟩
theorem k184:CallOk Tryz.prog 184:=⟨_,Tryz.func184,by decide+kernel,by kernel_rfl⟩
theorem k243:CallOk Tryz.prog 243:=⟨_,Tryz.func243,by decide+kernel,by kernel_rfl⟩
theorem k186:CallOk Tryz.prog 186:=⟨_,Tryz.func186,by decide+kernel,by kernel_rfl⟩
theorem k222:CallOk Tryz.prog 222:=⟨_,Tryz.func222,by decide+kernel,by kernel_rfl⟩
theorem k76:CallOk Tryz.prog 76:=⟨_,Tryz.func76,by decide+kernel,by kernel_rfl⟩
theorem k31:CallOk Tryz.prog 31:=⟨_,Tryz.func31,by decide+kernel,by kernel_rfl⟩
theorem k78:CallOk Tryz.prog 78:=⟨_,Tryz.func78,by decide+kernel,by kernel_rfl⟩
theorem k142:CallOk Tryz.prog 142:=⟨_,Tryz.func142,by decide+kernel,by kernel_rfl⟩
theorem k185:CallOk Tryz.prog 185:=⟨_,Tryz.func185,by decide+kernel,by kernel_rfl⟩
theorem k96:CallOk Tryz.prog 96:=⟨_,Tryz.func96,by decide+kernel,by kernel_rfl⟩
theorem k51:CallOk Tryz.prog 51:=⟨_,Tryz.func51,by decide+kernel,by kernel_rfl⟩
theorem k35:CallOk Tryz.prog 35:=⟨_,Tryz.func35,by decide+kernel,by kernel_rfl⟩
theorem k207:CallOk Tryz.prog 207:=⟨_,Tryz.func207,by decide+kernel,by kernel_rfl⟩
theorem k40:CallOk Tryz.prog 40:=⟨_,Tryz.func40,by decide+kernel,by kernel_rfl⟩
theorem k114:CallOk Tryz.prog 114:=⟨_,Tryz.func114,by decide+kernel,by kernel_rfl⟩
theorem k115:CallOk Tryz.prog 115:=⟨_,Tryz.func115,by decide+kernel,by kernel_rfl⟩
theorem k55:CallOk Tryz.prog 55:=⟨_,Tryz.func55,by decide+kernel,by kernel_rfl⟩
theorem k235:CallOk Tryz.prog 235:=⟨_,Tryz.func235,by decide+kernel,by kernel_rfl⟩
theorem k53:CallOk Tryz.prog 53:=⟨_,Tryz.func53,by decide+kernel,by kernel_rfl⟩
theorem k54:CallOk Tryz.prog 54:=⟨_,Tryz.func54,by decide+kernel,by kernel_rfl⟩
theorem k202:CallOk Tryz.prog 202:=⟨_,Tryz.func202,by decide+kernel,by kernel_rfl⟩
theorem k201:CallOk Tryz.prog 201:=⟨_,Tryz.func201,by decide+kernel,by kernel_rfl⟩
theorem k164:CallOk Tryz.prog 164:=⟨_,Tryz.func164,by decide+kernel,by kernel_rfl⟩
theorem k206:CallOk Tryz.prog 206:=⟨_,Tryz.func206,by decide+kernel,by kernel_rfl⟩
theorem k237:CallOk Tryz.prog 237:=⟨_,Tryz.func237,by decide+kernel,by kernel_rfl⟩
theorem k208:CallOk Tryz.prog 208:=⟨_,Tryz.func208,by decide+kernel,by kernel_rfl⟩
theorem k204:CallOk Tryz.prog 204:=⟨_,Tryz.func204,by decide+kernel,by kernel_rfl⟩
theorem k205:CallOk Tryz.prog 205:=⟨_,Tryz.func205,by decide+kernel,by kernel_rfl⟩
theorem k225:CallOk Tryz.prog 225:=⟨_,Tryz.func225,by decide+kernel,by kernel_rfl⟩
theorem k239:CallOk Tryz.prog 239:=⟨_,Tryz.func239,by decide+kernel,by kernel_rfl⟩
theorem k223:CallOk Tryz.prog 223:=⟨_,Tryz.func223,by decide+kernel,by kernel_rfl⟩
theorem k236:CallOk Tryz.prog 236:=⟨_,Tryz.func236,by decide+kernel,by kernel_rfl⟩
theorem k244:CallOk Tryz.prog 244:=⟨_,Tryz.func244,by decide+kernel,by kernel_rfl⟩
theorem k246:CallOk Tryz.prog 246:=⟨_,Tryz.func246,by decide+kernel,by kernel_rfl⟩
theorem k248:CallOk Tryz.prog 248:=⟨_,Tryz.func248,by decide+kernel,by kernel_rfl⟩
theorem k20:CallOk Tryz.prog 20:=⟨_,Tryz.func20,by decide+kernel,by kernel_rfl⟩
theorem k16:CallOk Tryz.prog 16:=⟨_,Tryz.func16,by decide+kernel,by kernel_rfl⟩
theorem k24:CallOk Tryz.prog 24:=⟨_,Tryz.func24,by decide+kernel,by kernel_rfl⟩
theorem mYear_any (w:World):
 Calls Tryz.prog 76 #[] w (RqPost w pyr):=by
 have st:=St.start w
 refine E.enter (nt:=2) (L:=[]) Tryz.func76 rfl rfl rfl args_nil ?_
 intro a hF
 refine wp_seq ?_
 refine E.seq ?_
 refine S.alloc st hF ty_Rat rfl rfl fun g0 w1 a st hF=>?_
 refine E.nil ?_
 refine wp_seq ?_
 refine E.seq ?_
 refine S.ck st hF (rgc k35 (map2 ev_c ev_c)) (rq_ret (rOf2_any (1577917828000) (4320000000) _ (by decide) (by decide) (by decide) (by decide)) (RLim.up (rlim_mk2 (limz_64 (by decide) (by decide)) (limz_64 (by decide) (by decide))) 2 (by decide))) Rl.cl rfl fun vv3 w2 a st hF=>?_
 obtain⟨b5,ad5,n5,c5,ae5,m5,d5,rfl⟩:=Rq.form (st.f 0 rfl).1
 refine S.sto st hF 0 rfl (hF.at 1 rfl) (hF.at 0 rfl) ty_Rat rfl rfl rfl rfl fun w6 a st hF=>?_
 refine E.nil ?_
 refine wp_ret ?_
 refine S.ret Tryz.results76 st hF (hF.at 1 rfl) 0 rfl ty_Rat rfl hF.dfr ?_
 have bel:=st.bel
 exact⟨_,rfl,(st.f 0 rfl).1,bel⟩
theorem mAnomalyYear_any (w:World):
 Calls Tryz.prog 184 #[] w (RqPost w pay):=by
 have st:=St.start w
 refine E.enter (nt:=2) (L:=[]) Tryz.func184 rfl rfl rfl args_nil ?_
 intro a hF
 refine wp_seq ?_
 refine E.seq ?_
 refine S.alloc st hF ty_Rat rfl rfl fun g0 w1 a st hF=>?_
 refine E.nil ?_
 refine wp_seq ?_
 refine E.seq ?_
 refine S.ck st hF (rgc k35 (map2 ev_c ev_c)) (rq_ret (rOf2_any (1577917828000) (4319999613) _ (by decide) (by decide) (by decide) (by decide)) (RLim.up (rlim_mk2 (limz_64 (by decide) (by decide)) (limz_64 (by decide) (by decide))) 2 (by decide))) Rl.cl rfl fun vv3 w2 a st hF=>?_
 obtain⟨b5,ad5,n5,c5,ae5,m5,d5,rfl⟩:=Rq.form (st.f 0 rfl).1
 refine S.sto st hF 0 rfl (hF.at 1 rfl) (hF.at 0 rfl) ty_Rat rfl rfl rfl rfl fun w6 a st hF=>?_
 refine E.nil ?_
 refine wp_ret ?_
 refine S.ret Tryz.results184 st hF (hF.at 1 rfl) 0 rfl ty_Rat rfl hF.dfr ?_
 have bel:=st.bel
 exact⟨_,rfl,(st.f 0 rfl).1,bel⟩
theorem mCreation_any (w:World):
 Calls Tryz.prog 243 #[] w (RqPost w cre):=by
 have st:=St.start w
 refine E.enter (nt:=2) (L:=[]) Tryz.func243 rfl rfl rfl args_nil ?_
 intro a hF
 refine wp_seq ?_
 refine E.seq ?_
 refine S.alloc st hF ty_Rat rfl rfl fun g0 w1 a st hF=>?_
 refine E.nil ?_
 refine wp_seq ?_
 refine E.seq ?_
 refine S.ck st hF (rgc k40 (map1 ev_c)) (rq_ret (rWhole_any ((-714403429586)) _ (by decide) (by decide)) (rlim_int (limz_64 (by decide) (by decide)) (by omega))) Rl.cl rfl fun vv3 w2 a st hF=>?_
 obtain⟨b5,ad5,n5,c5,ae5,m5,d5,rfl⟩:=Rq.form (st.f 0 rfl).1
 refine S.sto st hF 0 rfl (hF.at 1 rfl) (hF.at 0 rfl) ty_Rat rfl rfl rfl rfl fun w6 a st hF=>?_
 refine E.nil ?_
 refine wp_ret ?_
 refine S.ret Tryz.results243 st hF (hF.at 1 rfl) 0 rfl ty_Rat rfl hF.dfr ?_
 have bel:=st.bel
 exact⟨_,rfl,(st.f 0 rfl).1,bel⟩
theorem mTurns_any (v1 v2:Value) (qt qp:Rat) (k j:Nat) (w:World) (h1:Rq w v1 qt) (h2:Rq w v2 qp) (hl:RLim qt k) (hm:RLim qp j) (hk:k≤400) (hj:j≤400):
 Calls Tryz.prog 222 #[v1,v2] w (RqPost w (mturn qt qp)):=by
 have st:=St.start w
 refine E.enter (nt:=10) (L:=[(0,v1),(1,v2)]) Tryz.func222 rfl rfl rfl (args_cons (i:=0) rfl (args_cons (i:=1) rfl args_nil)) ?_
 intro a hF
 refine wp_seq ?_
 refine E.seq ?_
 obtain⟨b2,ad2,n2,c2,ae2,m2,d2,rfl⟩:=Rq.form h1
 refine S.box st hF (hF.at 0 rfl) rfl rfl fun g2 w1 a st hF=>?_
 obtain⟨b4,ad4,n4,c4,ae4,m4,d4,rfl⟩:=Rq.form h2
 refine S.box st hF (hF.at 2 rfl) rfl rfl fun g3 w3 a st hF=>?_
 refine S.alloc st hF ty_Rat rfl rfl fun g4 w5 a st hF=>?_
 refine E.nil ?_
 refine wp_seq ?_
 refine E.rg 5 mixed hF [5,6,7,8,9] [_,_,_,_,_] (by decide+kernel) rfl rfl rfl ⟨rb st ty_Rat 2 2 rfl,ck st k243 rfl fun _ s=>rq_ret (mCreation_any _) cre_lim,ck st k57 rfl fun _ s _ x6=>qSub ⟨(h1.below s.bel),hl⟩ x6,rb st ty_Rat 1 1 rfl,ck st k75 rfl fun _ s _ x7=>qDiv x7 ⟨(h2.below s.bel),hm⟩,trivial⟩ ?_
 intro a w6 hF bb hall
 replace st:=st.to bb
 obtain⟨vv7,hF,st⟩:=rS hall hF st 4 rfl rfl Rl.cl
 obtain⟨b9,ad9,n9,c9,ae9,m9,d9,rfl⟩:=Rq.form (st.f 0 rfl).1
 clear hall bb
 refine S.sto st hF 0 rfl (hF.at 1 rfl) (hF.at 0 rfl) ty_Rat rfl rfl rfl rfl fun w10 a st hF=>?_
 refine E.nil ?_
 refine wp_ret ?_
 refine S.ret Tryz.results222 st hF (hF.at 1 rfl) 0 rfl ty_Rat rfl hF.dfr ?_
 have bel:=st.bel
 exact⟨_,rfl,(st.f 0 rfl).1,bel⟩
theorem mof_no {t p:Rat} (h:sz p.num≤0):(0:Rat)=mof t p:=by unfold mof;rw[if_pos (sz_le0.1 h)]
theorem mof_yes {t p:Rat} (h:¬sz p.num≤0):(mturn t p-(((mturn t p).floor :Int):Rat))*((360:Int):Rat)=mof t p:=by unfold mof mfr;rw[if_neg (fun e=>h (sz_le0.2 e))]
theorem mOf_any (v1 v2:Value) (qt qp:Rat) (k j:Nat) (w:World) (h1:Rq w v1 qt) (h2:Rq w v2 qp) (hl:RLim qt k) (hm:RLim qp j) (hk:k≤400) (hj:j≤400):
 Calls Tryz.prog 186 #[v1,v2] w (RqPost w (mof qt qp)):=by
 by_cases h0:sz (Rat.num (qp))≤0
 ·have st:=St.start w
  refine E.enter (nt:=15) (L:=[(0,v1),(1,v2)]) Tryz.func186 rfl rfl rfl (args_cons (i:=0) rfl (args_cons (i:=1) rfl args_nil)) ?_
  intro a hF
  refine wp_seq ?_
  refine E.seq ?_
  obtain⟨b2,ad2,n2,c2,ae2,m2,d2,rfl⟩:=Rq.form h1
  refine S.box st hF (hF.at 0 rfl) rfl rfl fun g2 w1 a st hF=>?_
  obtain⟨b4,ad4,n4,c4,ae4,m4,d4,rfl⟩:=Rq.form h2
  refine S.box st hF (hF.at 2 rfl) rfl rfl fun g3 w3 a st hF=>?_
  refine S.alloc st hF ty_Rat rfl rfl fun g4 w5 a st hF=>?_
  refine E.nil ?_
  refine wp_seq ?_
  refine wp_seq ?_
  refine E.seq ?_
  refine E.opv hF (r_load (hF.at 1 rfl) (ld_all ty_Rat (st.bk 1 rfl) rfl)) rfl rfl rfl rfl fun a hF=>?_
  refine S.callx st hF (rgc k141 (map1 (hF.at 0 rfl))) (rsgn_any _ (qp) _ (h2.below st.bel)) rfl rfl rfl rfl fun w6 a st hF=>?_
  refine E.opv hF (r_bin (hF.at 0 rfl) ev_c eg_scalar (bi_int (ic_leq (c:=true) (dec_tt h0)) (by simp))) rfl rfl rfl rfl fun a hF=>?_
  refine E.nil ?_
  refine wp_cond_true (hF.at 0 rfl) ?_
  refine wp_seq ?_
  refine E.seq ?_
  refine E.opv hF (r_build (by simp) (bd_Rat_ _)) rfl rfl rfl rfl fun a hF=>?_
  refine S.sto st hF 0 rfl (hF.at 4 rfl) (hF.at 0 rfl) ty_Rat rfl rfl rfl rfl fun w7 a st hF=>?_
  refine E.nil ?_
  refine wp_ret ?_
  refine S.ret Tryz.results186 st hF (hF.at 4 rfl) 0 rfl ty_Rat rfl hF.dfr ?_
  have bel:=st.bel
  exact⟨_,rfl,Rq.castM (Rq.zero _) (mof_no h0),bel⟩
 ·have st:=St.start w
  refine E.enter (nt:=15) (L:=[(0,v1),(1,v2)]) Tryz.func186 rfl rfl rfl (args_cons (i:=0) rfl (args_cons (i:=1) rfl args_nil)) ?_
  intro a hF
  refine wp_seq ?_
  refine E.seq ?_
  obtain⟨b2,ad2,n2,c2,ae2,m2,d2,rfl⟩:=Rq.form h1
  refine S.box st hF (hF.at 0 rfl) rfl rfl fun g2 w1 a st hF=>?_
  obtain⟨b4,ad4,n4,c4,ae4,m4,d4,rfl⟩:=Rq.form h2
  refine S.box st hF (hF.at 2 rfl) rfl rfl fun g3 w3 a st hF=>?_
  refine S.alloc st hF ty_Rat rfl rfl fun g4 w5 a st hF=>?_
  refine E.nil ?_
  refine wp_seq ?_
  refine wp_seq ?_
  refine E.seq ?_
  refine E.opv hF (r_load (hF.at 1 rfl) (ld_all ty_Rat (st.bk 1 rfl) rfl)) rfl rfl rfl rfl fun a hF=>?_
  refine S.callx st hF (rgc k141 (map1 (hF.at 0 rfl))) (rsgn_any _ (qp) _ (h2.below st.bel)) rfl rfl rfl rfl fun w6 a st hF=>?_
  refine E.opv hF (r_bin (hF.at 0 rfl) ev_c eg_scalar (bi_int (ic_leq (c:=false) (dec_ff h0)) (by simp))) rfl rfl rfl rfl fun a hF=>?_
  refine E.nil ?_
  refine wp_cond_false (hF.at 0 rfl) ?_
  refine wp_skip ?_
  refine E.norm ?_
  refine wp_seq ?_
  refine E.seq ?_
  refine E.opv hF (r_load (hF.at 5 rfl) (ld_all ty_Rat (st.bk 2 rfl) rfl)) rfl rfl rfl rfl fun a hF=>?_
  refine E.opv hF (r_load (hF.at 5 rfl) (ld_all ty_Rat (st.bk 1 rfl) rfl)) rfl rfl rfl rfl fun a hF=>?_
  refine S.ck st hF (rgc k222 (map2 (hF.at 1 rfl) (hF.at 0 rfl))) (rq_ret (mTurns_any _ _ (qt) (qp) k j _ (h1.below st.bel) (h2.below st.bel) hl hm (by omega) (by omega)) (mturn_lim hl hm)) Rl.cl rfl fun vv8 w7 a st hF=>?_
  obtain⟨b10,ad10,n10,c10,ae10,m10,d10,rfl⟩:=Rq.form (st.f 0 rfl).1
  refine S.ck st hF (rgc k221 (map1 (hF.at 0 rfl))) (qFrac (st.f 0 rfl)) Rl.cl rfl fun vv12 w11 a st hF=>?_
  obtain⟨b14,ad14,n14,c14,ae14,m14,d14,rfl⟩:=Rq.form (st.f 0 rfl).1
  refine S.ck st hF (rgc k40 (map1 ev_c)) (rq_ret (rWhole_any (360) _ (by decide) (by decide)) (rlim_int (limz_64 (by decide) (by decide)) (by omega))) Rl.cl rfl fun vv16 w15 a st hF=>?_
  obtain⟨b18,ad18,n18,c18,ae18,m18,d18,rfl⟩:=Rq.form (st.f 0 rfl).1
  refine S.ck st hF (rgc k58 (map2 (hF.at 1 rfl) (hF.at 0 rfl))) (qMul (st.f 1 rfl) (st.f 0 rfl)) Rl.cl rfl fun vv20 w19 a st hF=>?_
  obtain⟨b22,ad22,n22,c22,ae22,m22,d22,rfl⟩:=Rq.form (st.f 0 rfl).1
  refine S.sto st hF 0 rfl (hF.at 9 rfl) (hF.at 0 rfl) ty_Rat rfl rfl rfl rfl fun w23 a st hF=>?_
  refine E.nil ?_
  refine wp_ret ?_
  refine S.ret Tryz.results186 st hF (hF.at 9 rfl) 0 rfl ty_Rat rfl hF.dfr ?_
  have bel:=st.bel
  exact⟨_,rfl,Rq.castM (st.f 0 rfl).1 (mof_yes h0),bel⟩
theorem qmYearM {w:World}:Calls Tryz.prog 76 #[] w (Ret (kq (pyr) (2)) w):=rq_ret (mYear_any _) pyr_lim
theorem qmAnomalyYearM {w:World}:Calls Tryz.prog 184 #[] w (Ret (kq (pay) (2)) w):=rq_ret (mAnomalyYear_any _) pay_lim
theorem qmOfM {v1 v2:Value} {p1 p2:Rat} {k1 k2:Nat} {w:World} (x1:Rl p1 k1 w v1) (x2:Rl p2 k2 w v2) (a1:k1≤400:=by omega) (a2:k2≤400:=by omega):Calls Tryz.prog 186 #[v1,v2] w (Ret (kq (mof (p1) (p2)) ((k1+k2+5))) w):=rq_ret (mOf_any _ _ (p1) (p2) k1 k2 _ x1.1 x2.1 x1.2 x2.2 (by omega) (by omega)) (mof_lim x1.2 x2.2)
end Go.Proofs.YtnljadejcfgmaaaGreatDoor
