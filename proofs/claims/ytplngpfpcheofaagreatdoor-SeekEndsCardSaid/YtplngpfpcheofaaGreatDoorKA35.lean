import Derived.Test.YtplngpfpcheofaaGreatDoorKA27
import Derived.Test.YtplngpfpcheofaaGreatDoorKA34
namespace Go.Proofs.YtplngpfpcheofaaGreatDoor
open Go.RowKit
set_option maxRecDepth 100000
set_option linter.unusedVariables false
set_option maxHeartbeats 8000000
theorem en150:(Tryz.f150.name == "runtime.NumGoroutine")=false∧Tryz.f150.body.isNone=false:=⟨by decide+kernel,by kernel_rfl⟩
theorem en148:(Tryz.f148.name == "runtime.NumGoroutine")=false∧Tryz.f148.body.isNone=false:=⟨by decide+kernel,by kernel_rfl⟩
theorem en151:(Tryz.f151.name == "runtime.NumGoroutine")=false∧Tryz.f151.body.isNone=false:=⟨by decide+kernel,by kernel_rfl⟩
theorem en149:(Tryz.f149.name == "runtime.NumGoroutine")=false∧Tryz.f149.body.isNone=false:=⟨by decide+kernel,by kernel_rfl⟩
theorem en188:(Tryz.f188.name == "runtime.NumGoroutine")=false∧Tryz.f188.body.isNone=false:=⟨by decide+kernel,by kernel_rfl⟩
theorem en171:(Tryz.f171.name == "runtime.NumGoroutine")=false∧Tryz.f171.body.isNone=false:=⟨by decide+kernel,by kernel_rfl⟩
theorem rYear11_any (w:World):
 Calls Tryz.prog 150 #[] w (RrPost w pyr 7):=by
 have st:=St.start w
 refine E.enter (nt:=2) (L:=[]) Tryz.func150 rfl rfl rfl args_nil ?_
 intro a hF
 refine wp_seq ?_
 refine E.seq ?_
 refine S.alloc st hF ty_RRat rfl rfl fun g0 w1 a st hF=>?_
 refine E.nil ?_
 refine wp_seq ?_
 refine E.seq ?_
 refine S.call st hF (r_call Tryz.func16 en16.1 en16.2 (map2 ev_c ev_c)) (dOf_any (394479457) (1080000) _ (by decide) (by decide) (by decide) (by decide)) (fun _ _ h=>h) Rr.cl rfl rfl rfl rfl fun vv3 w2 a st hF=>?_
 obtain⟨b5,ad5,n5,c5,ae5,m5,d5,rfl⟩:=Rr.form (st.f 0 rfl)
 refine S.sto st hF 0 rfl (hF.at 1 rfl) (hF.at 0 rfl) ty_RRat rfl rfl rfl rfl fun w6 a st hF=>?_
 refine E.nil ?_
 refine wp_ret ?_
 refine S.ret Tryz.results150 st hF (hF.at 1 rfl) 0 rfl ty_RRat rfl hF.dfr ?_
 have bel:=st.bel
 exact⟨_,rfl,Rr.cast (Rr.up (st.f 0 rfl) _ (by omega)) (by decide+kernel),bel⟩
theorem rMonth11_any (w:World):
 Calls Tryz.prog 148 #[] w (RrPost w pmo 7):=by
 have st:=St.start w
 refine E.enter (nt:=4) (L:=[]) Tryz.func148 rfl rfl rfl args_nil ?_
 intro a hF
 refine wp_seq ?_
 refine E.seq ?_
 refine S.alloc st hF ty_RRat rfl rfl fun g0 w1 a st hF=>?_
 refine E.nil ?_
 refine wp_seq ?_
 refine E.seq ?_
 refine S.call st hF (r_call Tryz.func16 en16.1 en16.2 (map2 ev_c ev_c)) (dOf1b_any (27) _ (by decide) (by decide)) (fun _ _ h=>h) Rr.cl rfl rfl rfl rfl fun vv3 w2 a st hF=>?_
 obtain⟨b5,ad5,n5,c5,ae5,m5,d5,rfl⟩:=Rr.form (st.f 0 rfl)
 refine S.call st hF (r_call Tryz.func16 en16.1 en16.2 (map2 ev_c ev_c)) (dOf_any (4644439) (14438334) _ (by decide) (by decide) (by decide) (by decide)) (fun _ _ h=>h) Rr.cl rfl rfl rfl rfl fun vv7 w6 a st hF=>?_
 obtain⟨b9,ad9,n9,c9,ae9,m9,d9,rfl⟩:=Rr.form (st.f 0 rfl)
 refine S.call st hF (r_call Tryz.func35 en35.1 en35.2 (map2 (hF.at 1 rfl) (hF.at 0 rfl))) (dAdd2_any _ _ _ _ 2 2 _ (st.f 1 rfl) (st.f 0 rfl) (by omega) (by omega) (by omega) (by omega)) (fun _ _ h=>h) Rr.cl rfl rfl rfl rfl fun vv11 w10 a st hF=>?_
 obtain⟨b13,ad13,n13,c13,ae13,m13,d13,rfl⟩:=Rr.form (st.f 0 rfl)
 refine S.sto st hF 0 rfl (hF.at 3 rfl) (hF.at 0 rfl) ty_RRat rfl rfl rfl rfl fun w14 a st hF=>?_
 refine E.nil ?_
 refine wp_ret ?_
 refine S.ret Tryz.results148 st hF (hF.at 3 rfl) 0 rfl ty_RRat rfl hF.dfr ?_
 have bel:=st.bel
 exact⟨_,rfl,Rr.cast (Rr.up (st.f 0 rfl) _ (by omega)) (by decide+kernel),bel⟩
theorem rAnomalyYear11_any (w:World):
 Calls Tryz.prog 151 #[] w (RrPost w pay 7):=by
 have st:=St.start w
 refine E.enter (nt:=2) (L:=[]) Tryz.func151 rfl rfl rfl args_nil ?_
 intro a hF
 refine wp_seq ?_
 refine E.seq ?_
 refine S.alloc st hF ty_RRat rfl rfl fun g0 w1 a st hF=>?_
 refine E.nil ?_
 refine wp_seq ?_
 refine E.seq ?_
 refine S.call st hF (r_call Tryz.func16 en16.1 en16.2 (map2 ev_c ev_c)) (dOf_any (1577917828000) (4319999613) _ (by decide) (by decide) (by decide) (by decide)) (fun _ _ h=>h) Rr.cl rfl rfl rfl rfl fun vv3 w2 a st hF=>?_
 obtain⟨b5,ad5,n5,c5,ae5,m5,d5,rfl⟩:=Rr.form (st.f 0 rfl)
 refine S.sto st hF 0 rfl (hF.at 1 rfl) (hF.at 0 rfl) ty_RRat rfl rfl rfl rfl fun w6 a st hF=>?_
 refine E.nil ?_
 refine wp_ret ?_
 refine S.ret Tryz.results151 st hF (hF.at 1 rfl) 0 rfl ty_RRat rfl hF.dfr ?_
 have bel:=st.bel
 exact⟨_,rfl,Rr.cast (Rr.up (st.f 0 rfl) _ (by omega)) (by decide+kernel),bel⟩
theorem rAnomalyMonth11_any (w:World):
 Calls Tryz.prog 149 #[] w (RrPost w pam 7):=by
 have st:=St.start w
 refine E.enter (nt:=2) (L:=[]) Tryz.func149 rfl rfl rfl args_nil ?_
 intro a hF
 refine wp_seq ?_
 refine E.seq ?_
 refine S.alloc st hF ty_RRat rfl rfl fun g0 w1 a st hF=>?_
 refine E.nil ?_
 refine wp_seq ?_
 refine E.seq ?_
 refine S.call st hF (r_call Tryz.func16 en16.1 en16.2 (map2 ev_c ev_c)) (dOf_any (1577917828) (57265137) _ (by decide) (by decide) (by decide) (by decide)) (fun _ _ h=>h) Rr.cl rfl rfl rfl rfl fun vv3 w2 a st hF=>?_
 obtain⟨b5,ad5,n5,c5,ae5,m5,d5,rfl⟩:=Rr.form (st.f 0 rfl)
 refine S.sto st hF 0 rfl (hF.at 1 rfl) (hF.at 0 rfl) ty_RRat rfl rfl rfl rfl fun w6 a st hF=>?_
 refine E.nil ?_
 refine wp_ret ?_
 refine S.ret Tryz.results149 st hF (hF.at 1 rfl) 0 rfl ty_RRat rfl hF.dfr ?_
 have bel:=st.bel
 exact⟨_,rfl,Rr.cast (Rr.up (st.f 0 rfl) _ (by omega)) (by decide+kernel),bel⟩
theorem rCreation11_any (w:World):
 Calls Tryz.prog 188 #[] w (RrPost w cre 12):=by
 have st:=St.start w
 refine E.enter (nt:=6) (L:=[]) Tryz.func188 rfl rfl rfl args_nil ?_
 intro a hF
 refine wp_seq ?_
 refine E.seq ?_
 refine S.alloc st hF ty_RRat rfl rfl fun g0 w1 a st hF=>?_
 refine E.nil ?_
 refine wp_seq ?_
 refine E.seq ?_
 refine S.call st hF (r_call Tryz.func16 en16.1 en16.2 (map2 ev_c ev_c)) (dOf1b_any ((-1132959)) _ (by decide) (by decide)) (fun _ _ h=>h) Rr.cl rfl rfl rfl rfl fun vv3 w2 a st hF=>?_
 obtain⟨b5,ad5,n5,c5,ae5,m5,d5,rfl⟩:=Rr.form (st.f 0 rfl)
 refine S.call st hF (r_call Tryz.func16 en16.1 en16.2 (map2 ev_c ev_c)) (dOf1b_any (1955880000) _ (by decide) (by decide)) (fun _ _ h=>h) Rr.cl rfl rfl rfl rfl fun vv7 w6 a st hF=>?_
 obtain⟨b9,ad9,n9,c9,ae9,m9,d9,rfl⟩:=Rr.form (st.f 0 rfl)
 refine S.call st hF (r_call Tryz.func150 en150.1 en150.2 map0) (rYear11_any _) (fun _ _ h=>h) Rr.cl rfl rfl rfl rfl fun vv11 w10 a st hF=>?_
 obtain⟨b13,ad13,n13,c13,ae13,m13,d13,rfl⟩:=Rr.form (st.f 0 rfl)
 refine S.call st hF (r_call Tryz.func69 en69.1 en69.2 (map2 (hF.at 1 rfl) (hF.at 0 rfl))) (dMul2_any _ _ _ (pyr) 2 7 _ (st.f 1 rfl) (st.f 0 rfl) (by omega) (by omega) (by omega) (by omega)) (fun _ _ h=>h) Rr.cl rfl rfl rfl rfl fun vv15 w14 a st hF=>?_
 obtain⟨b17,ad17,n17,c17,ae17,m17,d17,rfl⟩:=Rr.form (st.f 0 rfl)
 refine S.call st hF (r_call Tryz.func68 en68.1 en68.2 (map2 (hF.at 3 rfl) (hF.at 0 rfl))) (dSub2_any _ _ _ _ 2 (2+7) _ (st.f 3 rfl) (st.f 0 rfl) (by omega) (by omega) (by omega) (by omega)) (fun _ _ h=>h) Rr.cl rfl rfl rfl rfl fun vv19 w18 a st hF=>?_
 obtain⟨b21,ad21,n21,c21,ae21,m21,d21,rfl⟩:=Rr.form (st.f 0 rfl)
 refine S.sto st hF 0 rfl (hF.at 5 rfl) (hF.at 0 rfl) ty_RRat rfl rfl rfl rfl fun w22 a st hF=>?_
 refine E.nil ?_
 refine wp_ret ?_
 refine S.ret Tryz.results188 st hF (hF.at 5 rfl) 0 rfl ty_RRat rfl hF.dfr ?_
 have bel:=st.bel
 exact⟨_,rfl,Rr.cast (Rr.up (st.f 0 rfl) _ (by omega)) (by decide+kernel),bel⟩
theorem rMof_any (v1 v2:Value) (q1 q2:Rat) (k j i l:Nat) (w:World) (h1:Rr w v1 q1 k) (h2:Rr w v2 q2 j) (li1:RLim q1 i) (li2:RLim q2 l) (hp:1≤k) (hp2:1≤j) (hk:k≤100) (hj:j≤100) (hi:i≤100) (hl:l≤100):
 Calls Tryz.prog 171 #[v1,v2] w (RrPost w (mof q1 q2) (k+j+i+l+30)):=by
 obtain⟨b1,ad1,n1,c1,ae1,m1,d1,z1,D1,rfl,hn1,hd1,hD1,hq1,lz1,lD1⟩:=h1.shape
 have h1:Rr w (.agg #[.bool b1,.slice ad1 n1 c1,.slice ae1 m1 d1]) q1 k:=⟨_,_,_,_,_,_,_,_,_,rfl,hn1,hd1,hD1,hq1,lz1,lD1⟩
 have ha1:=hn1.abs
 have hb1:=hn1.neg
 replace hq1:=Lib.hid hq1
 obtain⟨b2,ad2,n2,c2,ae2,m2,d2,z2,D2,rfl,hn2,hd2,hD2,hq2,lz2,lD2⟩:=h2.shape
 have h2:Rr w (.agg #[.bool b2,.slice ad2 n2 c2,.slice ae2 m2 d2]) q2 j:=⟨_,_,_,_,_,_,_,_,_,rfl,hn2,hd2,hD2,hq2,lz2,lD2⟩
 have ha2:=hn2.abs
 have hb2:=hn2.neg
 replace hq2:=Lib.hid hq2
 by_cases h0:sz (Rat.num (q2))≤0
 ·have st:=St.start w
  refine E.enter (nt:=22) (L:=[(0,.agg #[.bool b1,.slice ad1 n1 c1,.slice ae1 m1 d1]),(1,.agg #[.bool b2,.slice ad2 n2 c2,.slice ae2 m2 d2])]) Tryz.func171 rfl rfl rfl (args_cons (i:=0) rfl (args_cons (i:=1) rfl args_nil)) ?_
  intro a hF
  refine wp_seq ?_
  refine E.seq ?_
  refine S.box st hF (hF.at 0 rfl) rfl rfl fun g2 w1 a st hF=>?_
  refine S.box st hF (hF.at 2 rfl) rfl rfl fun g3 w2 a st hF=>?_
  refine S.alloc st hF ty_RRat rfl rfl fun g4 w3 a st hF=>?_
  refine E.nil ?_
  refine wp_seq ?_
  refine wp_seq ?_
  refine E.seq ?_
  refine E.opv hF (r_load (hF.at 1 rfl) (ld_all ty_RRat (st.bk 1 rfl) rfl)) rfl rfl rfl rfl fun a hF=>?_
  refine S.callx st hF (r_call Tryz.func144 en144.1 en144.2 (map1 (hF.at 0 rfl))) (dSgn_any _ (q2) j _ (h2.below st.bel)) rfl rfl rfl rfl fun w4 a st hF=>?_
  refine E.opv hF (r_bin (hF.at 0 rfl) ev_c eg_scalar (bi_int (ic_leq (c:=true) (dec_tt h0)) (by simp))) rfl rfl rfl rfl fun a hF=>?_
  refine E.nil ?_
  refine wp_cond_true (hF.at 0 rfl) ?_
  refine wp_seq ?_
  refine E.seq ?_
  refine S.call st hF (r_call Tryz.func16 en16.1 en16.2 (map2 ev_c ev_c)) (dOf1b_any (0) _ (by decide) (by decide)) (fun _ _ h=>h) Rr.cl rfl rfl rfl rfl fun vv6 w5 a st hF=>?_
  obtain⟨b8,ad8,n8,c8,ae8,m8,d8,rfl⟩:=Rr.form (st.f 0 rfl)
  refine S.sto st hF 0 rfl (hF.at 4 rfl) (hF.at 0 rfl) ty_RRat rfl rfl rfl rfl fun w9 a st hF=>?_
  refine E.nil ?_
  refine wp_ret ?_
  refine S.ret Tryz.results171 st hF (hF.at 4 rfl) 0 rfl ty_RRat rfl hF.dfr ?_
  have bel:=st.bel
  exact⟨_,rfl,Rr.cast (Rr.up (st.f 0 rfl) _ (by omega)) (Rat.intCast_zero.trans (mof_no h0)),bel⟩
 ·have st:=St.start w
  refine E.enter (nt:=22) (L:=[(0,.agg #[.bool b1,.slice ad1 n1 c1,.slice ae1 m1 d1]),(1,.agg #[.bool b2,.slice ad2 n2 c2,.slice ae2 m2 d2])]) Tryz.func171 rfl rfl rfl (args_cons (i:=0) rfl (args_cons (i:=1) rfl args_nil)) ?_
  intro a hF
  refine wp_seq ?_
  refine E.seq ?_
  refine S.box st hF (hF.at 0 rfl) rfl rfl fun g2 w1 a st hF=>?_
  refine S.box st hF (hF.at 2 rfl) rfl rfl fun g3 w2 a st hF=>?_
  refine S.alloc st hF ty_RRat rfl rfl fun g4 w3 a st hF=>?_
  refine E.nil ?_
  refine wp_seq ?_
  refine wp_seq ?_
  refine E.seq ?_
  refine E.opv hF (r_load (hF.at 1 rfl) (ld_all ty_RRat (st.bk 1 rfl) rfl)) rfl rfl rfl rfl fun a hF=>?_
  refine S.callx st hF (r_call Tryz.func144 en144.1 en144.2 (map1 (hF.at 0 rfl))) (dSgn_any _ (q2) j _ (h2.below st.bel)) rfl rfl rfl rfl fun w4 a st hF=>?_
  refine E.opv hF (r_bin (hF.at 0 rfl) ev_c eg_scalar (bi_int (ic_leq (c:=false) (dec_ff h0)) (by simp))) rfl rfl rfl rfl fun a hF=>?_
  refine E.nil ?_
  refine wp_cond_false (hF.at 0 rfl) ?_
  refine wp_skip ?_
  refine E.norm ?_
  refine wp_seq ?_
  refine E.drawn 6 mixed hF [10,11,12,13,14,5] [(fun _ v=>v= .agg #[.bool b1,.slice ad1 n1 c1,.slice ae1 m1 d1]),(fun w v=>Rr w v (cre) (12)),(fun w v=>Rr w v ((q1)-(cre)) ((k+12+1))),(fun _ v=>v= .agg #[.bool b2,.slice ad2 n2 c2,.slice ae2 m2 d2]),(fun w v=>Rr w v (((q1)-(cre))/(q2)) (((k+12+1)+j))),(fun w v=>∃g,v= .pointer (some ⟨g,0,none⟩)∧w4.heap.size≤g∧Own w g [.bool false,.slice none 0 0,.slice none 0 0])] [5] (by decide+kernel) (by decide+kernel) rfl rfl rfl ⟨(Mb.eq _),(fun _ _ _ h hb=>h.below hb),(fun _ _ _ h hb=>h.below hb),(Mb.eq _),(fun _ _ _ h hb=>h.below hb),(fun _ _ _ ⟨g,e,l,o⟩ hb=>⟨g,e,l,o.below hb⟩),trivial⟩ ⟨fun _ _ ⟨g,e,_,o⟩=>⟨g,e,o.lt⟩,trivial⟩ ⟨?_,?_,?_,?_,?_,?_,trivial⟩ ?_
  ·intro a' w' hF' hb hd
   exact dv0 (r_load (hF'.at 5 rfl) (ld_all ty_RRat ((st.bk 2 rfl).below hb) rfl)) rfl rfl rfl
  ·intro a' w' hF' hb hd
   exact dc0 (r_call Tryz.func188 en188.1 en188.2 map0) (rCreation11_any _) rfl rfl
  ·intro a' w' hF' hb hd
   have e10:=sHe hd 0 10 rfl rfl rfl rfl
   obtain⟨v11_0,e11,h11_1⟩:=sH hd 1 11 rfl rfl rfl rfl
   exact dc0 (r_call Tryz.func68 en68.1 en68.2 (map2 e10 e11)) (dSub2_any _ _ (q1) (cre) k 12 _ (h1.below (below_to st.bel hb)) h11_1 (by omega) (by omega) (by omega) (by omega)) rfl rfl
  ·intro a' w' hF' hb hd
   exact dv0 (r_load (hF'.at 4 rfl) (ld_all ty_RRat ((st.bk 1 rfl).below hb) rfl)) rfl rfl rfl
  ·intro a' w' hF' hb hd
   obtain⟨v12_0,e12,h12_1⟩:=sH hd 0 12 rfl rfl rfl rfl
   have e13:=sHe hd 1 13 rfl rfl rfl rfl
   exact dc0 (r_call Tryz.func146 en146.1 en146.2 (map2 e12 e13)) (dDiv2_any _ _ _ (q2) (k+12+1) j _ h12_1 (h2.below (below_to st.bel hb)) (by omega) (by omega) (by omega) (by omega)) rfl rfl
  ·intro a' w' hF' hb hd
   exact da0 ty_RRat rfl hb.size rfl
  intro a w5 hF bb hall hne
  have s0:=st
  replace st:=st.to bb
  obtain⟨vv6,e14,hh7⟩:=sS hall 4 14 rfl rfl
  replace st:=st.add hh7 (Rr.cl _)
  clear hh7
  obtain⟨_,e5,g5,rfl,ge5,o5⟩:=sS hall 5 5 rfl rfl
  replace st:=st.push o5.blk (Nat.le_trans s0.bel.size ge5) (s0.ne ge5)
  clear o5
  clear hall hne bb s0
  obtain⟨b8,ad8,n8,c8,ae8,m8,d8,rfl⟩:=Rr.form (st.f 0 rfl)
  replace hF:=hF.add e14
  clear e14
  replace hF:=hF.add e5
  clear e5
  refine S.sto st hF 0 rfl (hF.at 0 rfl) (hF.at 1 rfl) ty_RRat rfl rfl rfl rfl fun w9 a st hF=>?_
  refine E.nil ?_
  refine wp_seq ?_
  refine E.drawn 7 mixed hF [15,16,17,18,19,20,21] [(fun _ v=>v= .agg #[.bool b8,.slice ad8 n8 c8,.slice ae8 m8 d8]),(fun _ v=>v= .agg #[.bool b8,.slice ad8 n8 c8,.slice ae8 m8 d8]),(fun w v=>Rz w v (Rat.floor (((q1)-(cre))/(q2)))),(fun w v=>Rr w v (((Rat.floor (((q1)-(cre))/(q2)):Int):Rat)) (((((i+2+1)+l)+1)+1))),(fun w v=>Rr w v ((((q1)-(cre))/(q2))-(((Rat.floor (((q1)-(cre))/(q2)):Int):Rat))) ((((k+12+1)+j)+((((i+2+1)+l)+1)+1)+1))),(fun w v=>Rr w v (((360:Int):Rat)) (2)),(fun w v=>Rr w v (((((q1)-(cre))/(q2))-(((Rat.floor (((q1)-(cre))/(q2)):Int):Rat)))*(((360:Int):Rat))) (((((k+12+1)+j)+((((i+2+1)+l)+1)+1)+1)+2)))] [] (by decide+kernel) (by decide+kernel) rfl rfl rfl ⟨(Mb.eq _),(Mb.eq _),(fun _ _ _ h hb=>h.below hb),(fun _ _ _ h hb=>h.below hb),(fun _ _ _ h hb=>h.below hb),(fun _ _ _ h hb=>h.below hb),(fun _ _ _ h hb=>h.below hb),trivial⟩ trivial ⟨?_,?_,?_,?_,?_,?_,?_,trivial⟩ ?_
  ·intro a' w' hF' hb hd
   exact dv0 (r_load (hF'.at 0 rfl) (ld_all ty_RRat ((st.bk 0 rfl).below hb) rfl)) rfl rfl rfl
  ·intro a' w' hF' hb hd
   exact dv0 (r_load (hF'.at 0 rfl) (ld_all ty_RRat ((st.bk 0 rfl).below hb) rfl)) rfl rfl rfl
  ·intro a' w' hF' hb hd
   have e16:=sHe hd 0 16 rfl rfl rfl rfl
   exact dc0 (r_call Tryz.func107 en107.1 en107.2 (map1 e16)) (dFloor_any _ _ ((k+12+1)+j) _ ((st.f 0 rfl).below hb) (by omega) (by omega)) rfl rfl
  ·intro a' w' hF' hb hd
   obtain⟨v17_0,e17,h17_1⟩:=sH hd 0 17 rfl rfl rfl rfl
   exact dc0 (r_call Tryz.func145 en145.1 en145.2 (map1 e17)) (dWhole_any _ (Rat.floor (((q1)-(cre))/(q2))) ((((i+2+1)+l)+1)+1) _ h17_1 (Lim.up (fl_lim (rlim_div (rlim_sub li1 cre_lim) li2)) _ (by omega)) (by omega)) rfl rfl
  ·intro a' w' hF' hb hd
   have e15:=sHe hd 0 15 rfl rfl rfl rfl
   obtain⟨v18_0,e18,h18_1⟩:=sH hd 1 18 rfl rfl rfl rfl
   exact dc0 (r_call Tryz.func68 en68.1 en68.2 (map2 e15 e18)) (dSub2_any _ _ _ (((Rat.floor _:Int):Rat)) ((k+12+1)+j) ((((i+2+1)+l)+1)+1) _ ((st.f 0 rfl).below hb) h18_1 (by omega) (by omega) (by omega) (by omega)) rfl rfl
  ·intro a' w' hF' hb hd
   exact dc0 (r_call Tryz.func16 en16.1 en16.2 (map2 ev_c ev_c)) (dOf1b_any (360) _ (by decide) (by decide)) rfl rfl
  ·intro a' w' hF' hb hd
   obtain⟨v19_0,e19,h19_1⟩:=sH hd 0 19 rfl rfl rfl rfl
   obtain⟨v20_0,e20,h20_1⟩:=sH hd 1 20 rfl rfl rfl rfl
   exact dc0 (r_call Tryz.func69 en69.1 en69.2 (map2 e19 e20)) (dMul2_any _ _ _ _ (((k+12+1)+j)+((((i+2+1)+l)+1)+1)+1) 2 _ h19_1 h20_1 (by omega) (by omega) (by omega) (by omega)) rfl rfl
  intro a w10 hF bb hall hne
  replace st:=st.to bb
  obtain⟨vv11,e21,hh12⟩:=sS hall 6 21 rfl rfl
  replace st:=st.add hh12 (Rr.cl _)
  clear hh12
  clear hall hne bb
  obtain⟨b13,ad13,n13,c13,ae13,m13,d13,rfl⟩:=Rr.form (st.f 0 rfl)
  replace hF:=hF.add e21
  clear e21
  refine S.sto st hF 1 rfl (hF.at 6 rfl) (hF.at 0 rfl) ty_RRat rfl rfl rfl rfl fun w14 a st hF=>?_
  refine E.nil ?_
  refine wp_ret ?_
  refine S.ret Tryz.results171 st hF (hF.at 6 rfl) 1 rfl ty_RRat rfl hF.dfr ?_
  have bel:=st.bel
  exact⟨_,rfl,Rr.cast (Rr.up (st.f 0 rfl) _ (by omega)) (mof_yes h0),bel⟩
end Go.Proofs.YtplngpfpcheofaaGreatDoor
