import Derived.Test.YtnljadejcfgmaaaGreatDoorKC28
import Derived.Test.YtnljadejcfgmaaaGreatDoorKC32
namespace Go.Proofs.YtnljadejcfgmaaaGreatDoor
open Go.RowKit
set_option maxRecDepth 100000
set_option linter.unusedVariables false
set_option maxHeartbeats 8000000
theorem rint2_any (v1:Value) (q1:Rat) (k:Nat) (w:World) (h1:Rr w v1 q1 k) (hp:1≤k) (hk:k≤4990) (hf0:0≤Rat.floor q1) (hf1:Rat.floor q1<65536):
 Calls Tryz.prog 84 #[v1] w (ValPost w (.int .i64 (Rat.floor q1))):=by
 have rl1:=h1.rlim
 obtain⟨b1,ad1,n1,c1,ae1,m1,d1,rfl⟩:=h1.form
 have st:=St.start w
 refine E.enter (nt:=6) (L:=[(0,.agg #[.bool b1,.slice ad1 n1 c1,.slice ae1 m1 d1])]) Tryz.func84 rfl rfl rfl (args_cons (i:=0) rfl args_nil) ?_
 intro a hF
 refine wp_seq ?_
 refine E.seq ?_
 refine S.box st hF (hF.at 0 rfl) rfl rfl fun g1 w1 a st hF=>?_
 refine E.opv hF (r_assign ev_c) rfl rfl rfl rfl fun a hF=>?_
 refine E.nil ?_
 refine wp_seq ?_
 refine E.seq ?_
 refine E.opv hF (r_load (hF.at 1 rfl) (ld_all ty_RRat (st.bk 0 rfl) rfl)) rfl rfl rfl rfl fun a hF=>?_
 refine S.ck st hF (rgc k125 (map1 (hF.at 0 rfl))) (rz_ret (dFloor_any _ (q1) k _ (h1.below st.bel) (by omega) (by omega)) (fl_lim rl1)) Zl.cl rfl fun vv3 w2 a st hF=>?_
 obtain⟨b5,ad5,n5,c5,rfl⟩:=Rz.form (st.f 0 rfl).1
 refine S.callx st hF (rgc k148 (map1 (hF.at 0 rfl))) (rsmall_any _ (Rat.floor (q1)) _ (st.f 0 rfl).1 hf0 hf1) rfl rfl rfl rfl fun w6 a st hF=>?_
 refine E.opset (L':=[(2,.int .i64 (Rat.floor (q1))),(5,.int .i64 (Rat.floor (q1))),(4,.agg #[.bool b5,.slice ad5 n5 c5]),(3,.agg #[.bool b1,.slice ad1 n1 c1,.slice ae1 m1 d1]),(1,.pointer (some ⟨g1,0,none⟩)),(0,.agg #[.bool b1,.slice ad1 n1 c1,.slice ae1 m1 d1])]) hF (r_assign (hF.at 0 rfl)) rfl rfl rfl rfl fun a hF=>?_
 refine E.nil ?_
 refine wp_ret ?_
 have bel:=st.bel
 refine bodyPost_ret (res_tmp Tryz.results84 (hF.at 0 rfl)) hF.dfr ?_
 exact⟨rfl,bel⟩
theorem rplace2_any (v1:Value) (q1:Rat) (k i:Nat) (w:World) (h1:Rr w v1 q1 k) (li1:RLim q1 i) (hp:1≤k) (hk:k≤3000) (hi:i≤800):
 Calls Tryz.prog 226 #[v1] w (ValPost w (.int .i64 (pk q1))):=by
 obtain⟨b1,ad1,n1,c1,ae1,m1,d1,rfl⟩:=h1.form
 have st:=St.start w
 refine E.enter (nt:=9) (L:=[(0,.agg #[.bool b1,.slice ad1 n1 c1,.slice ae1 m1 d1])]) Tryz.func226 rfl rfl rfl (args_cons (i:=0) rfl args_nil) ?_
 intro a hF
 refine wp_seq ?_
 refine E.seq ?_
 refine S.box st hF (hF.at 0 rfl) rfl rfl fun g1 w1 a st hF=>?_
 refine E.opv hF (r_assign ev_c) rfl rfl rfl rfl fun a hF=>?_
 refine E.nil ?_
 refine wp_seq ?_
 refine E.rg 6 mixed hF [3,4,5,6,7,8] [_,_,_,_,_,_] (by decide+kernel) rfl rfl rfl ⟨rb st ty_RRat 1 0 rfl,ck st k38 rfl fun _ s=>rr_ret (dOf_any (4) (15) _ (by decide) (by decide) (by decide) (by decide)) (RLim.up (rlim_mk2 (limz_64 (by decide) (by decide)) (limz_64 (by decide) (by decide))) 2 (by decide)),ck st k63 rfl fun _ s _ x4=>hMulE ⟨(h1.below s.bel),li1⟩ x4,ck st k38 rfl fun _ s=>rr_ret (dOf1b_any (96) _ (by decide) (by decide)) (lim64 (by decide) (by decide)),ck st k149 rfl fun _ s _ x5 _ x6=>hModE x5 x6,ck st k84 rfl fun _ s _ x7=>ex_ret (rint2_any _ (rmod ((q1)*(((4:Int):Rat)/((15:Int):Rat))) (((96:Int):Rat))) ((k+2)+2+(i+2)+2+3) _ x7.1 (by omega) (by omega) (by rw[place_eq];exact(pk_bd q1).1) (by rw[place_eq];have:=(pk_bd q1).2;omega)),trivial⟩ ?_
 intro a w2 hF bb hall
 replace st:=st.to bb
 replace hF:=rE hall hF 5 rfl rfl
 clear hall bb
 refine E.opset (L':=[(2,.int .i64 (Rat.floor (rmod ((q1)*(((4:Int):Rat)/((15:Int):Rat))) (((96:Int):Rat))))),(8,.int .i64 (Rat.floor (rmod ((q1)*(((4:Int):Rat)/((15:Int):Rat))) (((96:Int):Rat))))),(1,.pointer (some ⟨g1,0,none⟩)),(0,.agg #[.bool b1,.slice ad1 n1 c1,.slice ae1 m1 d1])]) hF (r_assign (hF.at 0 rfl)) rfl rfl rfl rfl fun a hF=>?_
 refine E.nil ?_
 refine wp_ret ?_
 have bel:=st.bel
 refine bodyPost_ret (res_tmp Tryz.results226 (hF.at 0 rfl)) hF.dfr ?_
 exact⟨rv_int (place_eq q1),bel⟩
theorem rstep2_any (v1:Value) (q1:Rat) (k i:Nat) (w:World) (h1:Rr w v1 q1 k) (li1:RLim q1 i) (hp:1≤k) (hk:k≤3000) (hi:i≤800):
 Calls Tryz.prog 228 #[v1] w (ValPost w (.int .i64 (spk (pk q1+1)-spk (pk q1)))):=by
 obtain⟨b1,ad1,n1,c1,ae1,m1,d1,rfl⟩:=h1.form
 have hpk:=pk_bd q1
 have hsa:=sp_bd (pk q1)
 have hsb:=sp_bd (pk q1+1)
 have st:=St.start w
 refine E.enter (nt:=11) (L:=[(0,.agg #[.bool b1,.slice ad1 n1 c1,.slice ae1 m1 d1])]) Tryz.func228 rfl rfl rfl (args_cons (i:=0) rfl args_nil) ?_
 intro a hF
 refine wp_seq ?_
 refine E.seq ?_
 refine S.box st hF (hF.at 0 rfl) rfl rfl fun g1 w1 a st hF=>?_
 refine E.opv hF (r_assign ev_c) rfl rfl rfl rfl fun a hF=>?_
 refine E.nil ?_
 refine wp_seq ?_
 refine E.rg 8 mixed hF [3,4,5,6,7,8,9,10] [_,_,.ex (.int .i64 ((pk (q1))+1)),_,_,_,_,.ex (.int .i64 ((spk ((pk (q1))+1))-(spk (pk (q1)))))] (by decide+kernel) rfl rfl rfl ⟨rb st ty_RRat 1 0 rfl,ck st k226 rfl fun _ s=>ex_ret (rplace2_any _ (q1) k i _ (h1.below s.bel) li1 (by omega) (by omega) (by omega)),(by intro a' w' hF' hb hd;have e4:=sHe hd 0 4 rfl rfl rfl rfl;have hpk:=pk_bd (q1);exact dv0 (r_bin e4 ev_c eg_scalar (ia_add (by omega) (by omega))) rfl rfl rfl),ck st k227 rfl fun _ s=>ex_ret (rsine_any ((pk (q1))+1) _),rb st ty_RRat 1 0 rfl,ck st k226 rfl fun _ s=>ex_ret (rplace2_any _ (q1) k i _ (h1.below s.bel) li1 (by omega) (by omega) (by omega)),ck st k227 rfl fun _ s=>ex_ret (rsine_any (pk (q1)) _),(by intro a' w' hF' hb hd;have e6:=sHe hd 0 6 rfl rfl rfl rfl;have e9:=sHe hd 1 9 rfl rfl rfl rfl;exact dv0 (r_bin e6 e9 eg_scalar (ia_sub (by omega) (by omega))) rfl rfl rfl),trivial⟩ ?_
 intro a w2 hF bb hall
 replace st:=st.to bb
 replace hF:=rE hall hF 7 rfl rfl
 clear hall bb
 refine E.opset (L':=[(2,.int .i64 ((spk ((pk (q1))+1))-(spk (pk (q1))))),(10,.int .i64 ((spk ((pk (q1))+1))-(spk (pk (q1))))),(1,.pointer (some ⟨g1,0,none⟩)),(0,.agg #[.bool b1,.slice ad1 n1 c1,.slice ae1 m1 d1])]) hF (r_assign (hF.at 0 rfl)) rfl rfl rfl rfl fun a hF=>?_
 refine E.nil ?_
 refine wp_ret ?_
 have bel:=st.bel
 refine bodyPost_ret (res_tmp Tryz.results228 (hF.at 0 rfl)) hF.dfr ?_
 exact⟨rfl,bel⟩
theorem rsof2_any (v1:Value) (q1:Rat) (k i:Nat) (w:World) (h1:Rr w v1 q1 k) (li1:RLim q1 i) (hp:1≤k) (hk:k≤3000) (hi:i≤800):
 Calls Tryz.prog 189 #[v1] w (RrPost w (sof q1) (k+i+40)):=by
 obtain⟨b1,ad1,n1,c1,ae1,m1,d1,rfl⟩:=h1.form
 have hpk:=pk_bd q1
 have st:=St.start w
 refine E.enter (nt:=27) (L:=[(0,.agg #[.bool b1,.slice ad1 n1 c1,.slice ae1 m1 d1])]) Tryz.func189 rfl rfl rfl (args_cons (i:=0) rfl args_nil) ?_
 intro a hF
 refine wp_seq ?_
 refine E.seq ?_
 refine S.box st hF (hF.at 0 rfl) rfl rfl fun g1 w1 a st hF=>?_
 refine S.alloc st hF ty_RRat rfl rfl fun g2 w2 a st hF=>?_
 refine E.nil ?_
 refine wp_seq ?_
 refine E.rga 6 mixed hF [5,6,7,8,9,3] [_,_,_,_,_,kn w2 [.bool false,.slice none 0 0,.slice none 0 0]] [5] ⟨fun _ _ ⟨g,e,_,o⟩=>⟨g,e,o.lt⟩,trivial⟩ (by decide+kernel) rfl rfl rfl ⟨rb st ty_RRat 1 1 rfl,ck st k38 rfl fun _ s=>rr_ret (dOf_any (4) (15) _ (by decide) (by decide) (by decide) (by decide)) (RLim.up (rlim_mk2 (limz_64 (by decide) (by decide)) (limz_64 (by decide) (by decide))) 2 (by decide)),ck st k63 rfl fun _ s _ x6=>hMulE ⟨(h1.below s.bel),li1⟩ x6,ck st k38 rfl fun _ s=>rr_ret (dOf1b_any (96) _ (by decide) (by decide)) (lim64 (by decide) (by decide)),ck st k149 rfl fun _ s _ x7 _ x8=>hModE x7 x8,ra ty_RRat rfl rfl,trivial⟩ ?_
 intro a w3 hF bb hall hne
 have s0:=st
 replace st:=st.to bb
 obtain⟨vv4,hF,st⟩:=rS hall hF st 4 rfl rfl Rh.cl
 obtain⟨b6,ad6,n6,c6,ae6,m6,d6,rfl⟩:=Rr.form (st.f 0 rfl).1
 obtain⟨_,e3,g3,rfl,ge3,o3⟩:=sS hall 5 3 rfl rfl
 replace st:=st.push o3.blk (Nat.le_trans s0.bel.size ge3) (s0.ne ge3)
 clear o3
 replace hF:=hF.add e3
 clear hall bb hne s0
 refine S.sto st hF 0 rfl (hF.at 0 rfl) (hF.at 1 rfl) ty_RRat rfl rfl rfl rfl fun w7 a st hF=>?_
 refine E.nil ?_
 refine wp_seq ?_
 refine E.rga 6 mixed hF [10,11,12,13,14,4] [_,_,_,_,_,kn w7 [.bool false,.slice none 0 0,.slice none 0 0]] [5] ⟨fun _ _ ⟨g,e,_,o⟩=>⟨g,e,o.lt⟩,trivial⟩ (by decide+kernel) rfl rfl rfl ⟨rb st ty_RRat 0 0 rfl,rb st ty_RRat 3 2 rfl,ck st k226 rfl fun _ s=>ex_ret (rplace2_any _ (q1) k i _ (h1.below s.bel) li1 (by omega) (by omega) (by omega)),ck st k38 rfl fun _ s=>rr_ret (dOf1b_any (pk (q1)) _ (by omega) (by omega)) (lim64 (by omega) (by omega)),ck st k80 rfl fun _ s _ x13=>hSubE (s.f 0 rfl) x13,ra ty_RRat rfl rfl,trivial⟩ ?_
 intro a w8 hF bb hall hne
 have s0:=st
 replace st:=st.to bb
 obtain⟨vv9,hF,st⟩:=rS hall hF st 4 rfl rfl Rh.cl
 obtain⟨b11,ad11,n11,c11,ae11,m11,d11,rfl⟩:=Rr.form (st.f 0 rfl).1
 obtain⟨_,e4,g4,rfl,ge4,o4⟩:=sS hall 5 4 rfl rfl
 replace st:=st.push o4.blk (Nat.le_trans s0.bel.size ge4) (s0.ne ge4)
 clear o4
 replace hF:=hF.add e4
 clear hall bb hne s0
 refine S.sto st hF 0 rfl (hF.at 0 rfl) (hF.at 1 rfl) ty_RRat rfl rfl rfl rfl fun w12 a st hF=>?_
 refine E.nil ?_
 refine wp_seq ?_
 refine E.rg 12 mixed hF [15,16,17,18,19,20,21,22,23,24,25,26] [_,_,_,_,_,_,_,_,_,_,_,_] (by decide+kernel) rfl rfl rfl ⟨rb st ty_RRat 5 3 rfl,ck st k226 rfl fun _ s=>ex_ret (rplace2_any _ (q1) k i _ (h1.below s.bel) li1 (by omega) (by omega) (by omega)),ck st k227 rfl fun _ s=>ex_ret (rsine_any (pk (q1)) _),ck st k38 rfl fun _ s=>rr_ret (dOf1b_any (spk (pk (q1))) _ (by have:=spk64S (pk (q1));omega) (by have:=spk64S (pk (q1));omega)) (lim64 (spk64 (pk (q1))).1 (spk64 (pk (q1))).2),rb st ty_RRat 0 0 rfl,rb st ty_RRat 5 3 rfl,ck st k228 rfl fun _ s=>ex_ret (rstep2_any _ (q1) k i _ (h1.below s.bel) li1 (by omega) (by omega) (by omega)),ck st k38 rfl fun _ s=>rr_ret (dOf1b_any (spk (pk (q1)+1)-spk (pk (q1))) _ (by have:=dif64S (pk (q1));omega) (by have:=dif64S (pk (q1));omega)) (lim64 (dif64 (pk (q1))).1 (dif64 (pk (q1))).2),ck st k63 rfl fun _ s _ x22=>hMulE (s.f 0 rfl) x22,ck st k62 rfl fun _ s _ x18 _ x23=>hAddE x18 x23,ck st k38 rfl fun _ s=>rr_ret (dOf_any (1) (3438) _ (by decide) (by decide) (by decide) (by decide)) (RLim.up (rlim_mk2 (limz_64 (by decide) (by decide)) (limz_64 (by decide) (by decide))) 2 (by decide)),ck st k63 rfl fun _ s _ x24 _ x25=>hMulE x24 x25,trivial⟩ ?_
 intro a w13 hF bb hall
 replace st:=st.to bb
 obtain⟨vv14,hF,st⟩:=rS hall hF st 11 rfl rfl Rh.cl
 obtain⟨b16,ad16,n16,c16,ae16,m16,d16,rfl⟩:=Rr.form (st.f 0 rfl).1
 clear hall bb
 refine S.sto st hF 2 rfl (hF.at 5 rfl) (hF.at 0 rfl) ty_RRat rfl rfl rfl rfl fun w17 a st hF=>?_
 refine E.nil ?_
 refine wp_ret ?_
 refine S.ret Tryz.results189 st hF (hF.at 5 rfl) 2 rfl ty_RRat rfl hF.dfr ?_
 have bel:=st.bel
 exact⟨_,rfl,Rr.cast (Rr.up (st.f 0 rfl).1 _ (by omega)) (dsof_eq q1),bel⟩
theorem rarc2_pos (v1:Value) (q1:Rat) (k:Nat) (w:World) (h1:Rr w v1 q1 k) (hp:1≤k) (hk:k≤6000) (hx:¬q1<0):
 Calls Tryz.prog 230 #[v1] w (RrPost w (arcv q1) (k+20)):=by
 have rl1:=h1.rlim
 obtain⟨b1,ad1,n1,c1,ae1,m1,d1,rfl⟩:=h1.form
 have st:=St.start w
 refine E.enter (nt:=44) (L:=[(0,.agg #[.bool b1,.slice ad1 n1 c1,.slice ae1 m1 d1])]) Tryz.func230 rfl rfl rfl (args_cons (i:=0) rfl args_nil) ?_
 intro a hF
 refine wp_seq ?_
 refine E.seq ?_
 refine S.box st hF (hF.at 0 rfl) rfl rfl fun g1 w1 a st hF=>?_
 refine S.alloc st hF ty_RRat rfl rfl fun g2 w2 a st hF=>?_
 refine E.nil ?_
 refine wp_seq ?_
 refine E.drawn 4 mixed hF [6,7,8,3] [(fun _ v=>v= .agg #[.bool b1,.slice ad1 n1 c1,.slice ae1 m1 d1]),(fun w v=>Rr w v (((3438:Int):Rat)) (2)),(fun w v=>Rr w v ((q1)*(((3438:Int):Rat))) ((k+2))),(fun w v=>∃g,v= .pointer (some ⟨g,0,none⟩)∧w2.heap.size≤g∧Own w g [.bool false,.slice none 0 0,.slice none 0 0])] [3] (by decide+kernel) (by decide+kernel) rfl rfl rfl ⟨(Mb.eq _),(fun _ _ _ h hb=>h.below hb),(fun _ _ _ h hb=>h.below hb),(fun _ _ _ ⟨g,e,l,o⟩ hb=>⟨g,e,l,o.below hb⟩),trivial⟩ ⟨fun _ _ ⟨g,e,_,o⟩=>⟨g,e,o.lt⟩,trivial⟩ ⟨?_,?_,?_,?_,trivial⟩ ?_
 ·intro a' w' hF' hb hd
  exact dv0 (r_load (hF'.at 1 rfl) (ld_all ty_RRat ((st.bk 1 rfl).below hb) rfl)) rfl rfl rfl
 ·intro a' w' hF' hb hd
  exact dc0 (r_call Tryz.func38 en38.1 en38.2 (map2 ev_c ev_c)) (dOf1b_any (3438) _ (by decide) (by decide)) rfl rfl
 ·intro a' w' hF' hb hd
  have e6:=sHe hd 0 6 rfl rfl rfl rfl
  obtain⟨v7_0,e7,h7_1⟩:=sH hd 1 7 rfl rfl rfl rfl
  exact dc0 (r_call Tryz.func63 en63.1 en63.2 (map2 e6 e7)) (dMul2_any _ _ (q1) _ k 2 _ (h1.below (below_to st.bel hb)) h7_1 (by omega) (by omega) (by omega) (by omega)) rfl rfl
 ·intro a' w' hF' hb hd
  exact da0 ty_RRat rfl hb.size rfl
 intro a w3 hF bb hall hne
 have s0:=st
 replace st:=st.to bb
 obtain⟨vv4,e8,hh5⟩:=sS hall 2 8 rfl rfl
 replace st:=st.add hh5 (Rr.cl _)
 clear hh5
 obtain⟨_,e3,g3,rfl,ge3,o3⟩:=sS hall 3 3 rfl rfl
 replace st:=st.push o3.blk (Nat.le_trans s0.bel.size ge3) (s0.ne ge3)
 clear o3
 clear hall hne bb s0
 obtain⟨b6,ad6,n6,c6,ae6,m6,d6,rfl⟩:=Rr.form (st.f 0 rfl)
 replace hF:=hF.add e8
 clear e8
 replace hF:=hF.add e3
 clear e3
 refine S.sto st hF 0 rfl (hF.at 0 rfl) (hF.at 1 rfl) ty_RRat rfl rfl rfl rfl fun w7 a st hF=>?_
 refine E.nil ?_
 refine wp_seq ?_
 refine E.seq ?_
 refine E.opv hF (r_assign ev_c) rfl rfl rfl rfl fun a hF=>?_
 refine E.nil ?_
 refine wp_seq ?_
 refine wp_block ?_
 refine E.loop (fun mq a wv=>∃(j:Nat),j≤24∧ykf (q1*((3438:Int):Rat)) (24-j) j=yk (q1*((3438:Int):Rat))∧Fr 44 a [(4,.int .i64 ((j:Nat):Int)),(3,.pointer (some ⟨g3,0,none⟩)),(2,.pointer (some ⟨g2,0,none⟩))]∧St w wv [(g3,[.bool b6,.slice ad6 n6 c6,.slice ae6 m6 d6]),(g2,[.bool false,.slice none 0 0,.slice none 0 0])] [fun w=>Rr w (.agg #[.bool b6,.slice ad6 n6 c6,.slice ae6 m6 d6]) ((q1)*(((3438:Int):Rat))) ((k+2))]∧mq=24-j) (24-0) ?_ ?_
 ·exact⟨0,(by omega),rfl,Fr.pick (L':=[(4,.int .i64 0),(3,.pointer (some ⟨g3,0,none⟩)),(2,.pointer (some ⟨g2,0,none⟩))]) hF [0,1,3] rfl,st.pick [0,1] [0] rfl rfl (by decide),rfl⟩
 ·rintro mq a w8 ⟨j,hj,hyk,hF,st,hm⟩
  have hsa:=dif64S ((j:Nat):Int)
  refine wp_seq ?_
  refine wp_seq ?_
  by_cases hc9:((j:Nat):Int)<24
  ·first
   |(exfalso;omega)
   |(by_cases hc10:0<qc ((q1)*(((3438:Int):Rat))) (((spk (((j:Nat):Int)+1):Int):Rat))
     ·first
      |(exfalso;omega)
      |(refine E.drawn 11 mixed hF [9,10,11,12,13,14,15,16,17,18,19] [(fun _ v=>v= .int .i64 ((j:Nat):Int)),(fun _ v=>v= .bool true),(fun _ v=>v= .bool true),(fun _ v=>v= .agg #[.bool b6,.slice ad6 n6 c6,.slice ae6 m6 d6]),(fun _ v=>v= .int .i64 ((j:Nat):Int)),(fun _ v=>v= .int .i64 (((j:Nat):Int)+1)),(fun _ v=>v= .int .i64 (spk (((j:Nat):Int)+1))),(fun w v=>Rr w v (((spk (((j:Nat):Int)+1):Int):Rat)) (2)),(fun _ v=>v= .int .i64 (qc ((q1)*(((3438:Int):Rat))) (((spk (((j:Nat):Int)+1):Int):Rat)))),(fun _ v=>v= .bool true),(fun _ v=>v= .bool true)] [] (by decide+kernel) (by decide+kernel) rfl rfl rfl ⟨(Mb.eq _),(Mb.eq _),(Mb.eq _),(Mb.eq _),(Mb.eq _),(Mb.eq _),(Mb.eq _),(fun _ _ _ h hb=>h.below hb),(Mb.eq _),(Mb.eq _),(Mb.eq _),trivial⟩ trivial ⟨?_,?_,?_,?_,?_,?_,?_,?_,?_,?_,?_,trivial⟩ ?_
        ·intro a' w' hF' hb hd
         exact dv0 (r_move (hF'.at 0 rfl)) rfl rfl rfl
        ·intro a' w' hF' hb hd
         have e9:=sHe hd 0 9 rfl rfl rfl rfl
         exact dv0 (r_bin e9 ev_c eg_scalar (bi_int (ic_lss (c:=true) (dec_tt hc9)) (by simp))) rfl rfl rfl
        ·intro a' w' hF' hb hd
         have e10:=sHe hd 0 10 rfl rfl rfl rfl
         exact dv0 (r_move e10) rfl rfl rfl
        ·intro a' w' hF' hb hd
         have e11:=sHe hd 0 11 rfl rfl rfl rfl
         exact dv1 (wanted_by rfl rfl e11 rfl) (r_load (hF'.at 1 rfl) (ld_all ty_RRat ((st.bk 0 rfl).below hb) rfl)) rfl rfl
        ·intro a' w' hF' hb hd
         have e11:=sHe hd 0 11 rfl rfl rfl rfl
         exact dv1 (wanted_by rfl rfl e11 rfl) (r_move (hF'.at 0 rfl)) rfl rfl
        ·intro a' w' hF' hb hd
         have e11:=sHe hd 1 11 rfl rfl rfl rfl
         have e13:=sHe hd 0 13 rfl rfl rfl rfl
         exact dv1 (wanted_by rfl rfl e11 rfl) (r_bin e13 ev_c eg_scalar (ia_add (by omega) (by omega))) rfl rfl
        ·intro a' w' hF' hb hd
         have e11:=sHe hd 1 11 rfl rfl rfl rfl
         have e14:=sHe hd 0 14 rfl rfl rfl rfl
         exact dcx1 (wanted_by rfl rfl e11 rfl) (r_call Tryz.func251 en251.1 en251.2 (map1 e14)) (high_spd (((j:Nat):Int)+1) _ (by omega) (by omega)) (fun _=>rfl) rfl
        ·intro a' w' hF' hb hd
         have e11:=sHe hd 2 11 rfl rfl rfl rfl
         have e15:=sHe hd 0 15 rfl rfl rfl rfl
         exact dc1 (wanted_by rfl rfl e11 rfl) (r_call Tryz.func38 en38.1 en38.2 (map2 e15 ev_c)) (dOf1b_any (spk (((j:Nat):Int)+1)) _ (by have:=spk64S (((j:Nat):Int)+1);omega) (by have:=spk64S (((j:Nat):Int)+1);omega)) rfl
        ·intro a' w' hF' hb hd
         have e11:=sHe hd 3 11 rfl rfl rfl rfl
         have e12:=sHe hd 0 12 rfl rfl rfl rfl
         obtain⟨v16_0,e16,h16_1⟩:=sH hd 1 16 rfl rfl rfl rfl
         exact dcx1 (wanted_by rfl rfl e11 rfl) (r_call Tryz.func196 en196.1 en196.2 (map2 e12 e16)) (dCmp2_any _ _ _ _ (k+2) 2 _ ((st.f 0 rfl).below hb) h16_1 (by omega) (by omega)) (fun _=>rfl) rfl
        ·intro a' w' hF' hb hd
         have e11:=sHe hd 1 11 rfl rfl rfl rfl
         have e17:=sHe hd 0 17 rfl rfl rfl rfl
         exact dv1 (wanted_by rfl rfl e11 rfl) (r_bin e17 ev_c eg_scalar (bi_int (ic_gtr (c:=true) (dec_tt hc10)) (by simp))) rfl rfl
        ·intro a' w' hF' hb hd
         have e11:=sHe hd 0 11 rfl rfl rfl rfl
         have e18:=sHe hd 1 18 rfl rfl rfl rfl
         exact dv0 (r_pick_t e11 e18) rfl rfl rfl
        intro a w11 hF bb hall hne
        replace st:=st.to bb
        have e19:=sSe hall 10 19 rfl rfl
        clear hall hne bb
        replace hF:=hF.add e19
        clear e19
        refine E.nil ?_
        refine wp_cond_true (hF.at 0 rfl) ?_
        refine wp_skip ?_
        refine E.norm ?_
        refine wp_block ?_
        refine E.seq ?_
        refine E.opv hF (r_move (hF.at 1 rfl)) rfl rfl rfl rfl fun a hF=>?_
        refine E.opv hF (r_bin (hF.at 0 rfl) ev_c eg_scalar (ia_add (by omega) (by omega))) rfl rfl rfl rfl fun a hF=>?_
        refine E.opset (L':=[(4,.int .i64 (((j:Nat):Int)+1)),(21,.int .i64 (((j:Nat):Int)+1)),(20,.int .i64 ((j:Nat):Int)),(19,.bool true),(3,.pointer (some ⟨g3,0,none⟩)),(2,.pointer (some ⟨g2,0,none⟩))]) hF (r_assign (hF.at 0 rfl)) rfl rfl rfl rfl fun a hF=>?_
        refine E.nil0 ?_
        refine E.blk ?_
        refine E.norm ?_
        exact⟨24-(j+1),by omega,⟨(j+1),(by omega),(yk_next (by omega) hyk hc10),(by rw[show((j+1:Nat):Int)=((j:Nat):Int)+1 from by omega];exact Fr.pick (L':=[(4,.int .i64 (((j:Nat):Int)+1)),(3,.pointer (some ⟨g3,0,none⟩)),(2,.pointer (some ⟨g2,0,none⟩))]) hF [0,4,5] rfl),st.pick [0,1] [0] rfl rfl (by decide),rfl⟩⟩)
     ·first
      |(exfalso;omega)
      |(refine E.drawn 11 mixed hF [9,10,11,12,13,14,15,16,17,18,19] [(fun _ v=>v= .int .i64 ((j:Nat):Int)),(fun _ v=>v= .bool true),(fun _ v=>v= .bool true),(fun _ v=>v= .agg #[.bool b6,.slice ad6 n6 c6,.slice ae6 m6 d6]),(fun _ v=>v= .int .i64 ((j:Nat):Int)),(fun _ v=>v= .int .i64 (((j:Nat):Int)+1)),(fun _ v=>v= .int .i64 (spk (((j:Nat):Int)+1))),(fun w v=>Rr w v (((spk (((j:Nat):Int)+1):Int):Rat)) (2)),(fun _ v=>v= .int .i64 (qc ((q1)*(((3438:Int):Rat))) (((spk (((j:Nat):Int)+1):Int):Rat)))),(fun _ v=>v= .bool false),(fun _ v=>v= .bool false)] [] (by decide+kernel) (by decide+kernel) rfl rfl rfl ⟨(Mb.eq _),(Mb.eq _),(Mb.eq _),(Mb.eq _),(Mb.eq _),(Mb.eq _),(Mb.eq _),(fun _ _ _ h hb=>h.below hb),(Mb.eq _),(Mb.eq _),(Mb.eq _),trivial⟩ trivial ⟨?_,?_,?_,?_,?_,?_,?_,?_,?_,?_,?_,trivial⟩ ?_
        ·intro a' w' hF' hb hd
         exact dv0 (r_move (hF'.at 0 rfl)) rfl rfl rfl
        ·intro a' w' hF' hb hd
         have e9:=sHe hd 0 9 rfl rfl rfl rfl
         exact dv0 (r_bin e9 ev_c eg_scalar (bi_int (ic_lss (c:=true) (dec_tt hc9)) (by simp))) rfl rfl rfl
        ·intro a' w' hF' hb hd
         have e10:=sHe hd 0 10 rfl rfl rfl rfl
         exact dv0 (r_move e10) rfl rfl rfl
        ·intro a' w' hF' hb hd
         have e11:=sHe hd 0 11 rfl rfl rfl rfl
         exact dv1 (wanted_by rfl rfl e11 rfl) (r_load (hF'.at 1 rfl) (ld_all ty_RRat ((st.bk 0 rfl).below hb) rfl)) rfl rfl
        ·intro a' w' hF' hb hd
         have e11:=sHe hd 0 11 rfl rfl rfl rfl
         exact dv1 (wanted_by rfl rfl e11 rfl) (r_move (hF'.at 0 rfl)) rfl rfl
        ·intro a' w' hF' hb hd
         have e11:=sHe hd 1 11 rfl rfl rfl rfl
         have e13:=sHe hd 0 13 rfl rfl rfl rfl
         exact dv1 (wanted_by rfl rfl e11 rfl) (r_bin e13 ev_c eg_scalar (ia_add (by omega) (by omega))) rfl rfl
        ·intro a' w' hF' hb hd
         have e11:=sHe hd 1 11 rfl rfl rfl rfl
         have e14:=sHe hd 0 14 rfl rfl rfl rfl
         exact dcx1 (wanted_by rfl rfl e11 rfl) (r_call Tryz.func251 en251.1 en251.2 (map1 e14)) (high_spd (((j:Nat):Int)+1) _ (by omega) (by omega)) (fun _=>rfl) rfl
        ·intro a' w' hF' hb hd
         have e11:=sHe hd 2 11 rfl rfl rfl rfl
         have e15:=sHe hd 0 15 rfl rfl rfl rfl
         exact dc1 (wanted_by rfl rfl e11 rfl) (r_call Tryz.func38 en38.1 en38.2 (map2 e15 ev_c)) (dOf1b_any (spk (((j:Nat):Int)+1)) _ (by have:=spk64S (((j:Nat):Int)+1);omega) (by have:=spk64S (((j:Nat):Int)+1);omega)) rfl
        ·intro a' w' hF' hb hd
         have e11:=sHe hd 3 11 rfl rfl rfl rfl
         have e12:=sHe hd 0 12 rfl rfl rfl rfl
         obtain⟨v16_0,e16,h16_1⟩:=sH hd 1 16 rfl rfl rfl rfl
         exact dcx1 (wanted_by rfl rfl e11 rfl) (r_call Tryz.func196 en196.1 en196.2 (map2 e12 e16)) (dCmp2_any _ _ _ _ (k+2) 2 _ ((st.f 0 rfl).below hb) h16_1 (by omega) (by omega)) (fun _=>rfl) rfl
        ·intro a' w' hF' hb hd
         have e11:=sHe hd 1 11 rfl rfl rfl rfl
         have e17:=sHe hd 0 17 rfl rfl rfl rfl
         exact dv1 (wanted_by rfl rfl e11 rfl) (r_bin e17 ev_c eg_scalar (bi_int (ic_gtr (c:=false) (dec_ff hc10)) (by simp))) rfl rfl
        ·intro a' w' hF' hb hd
         have e11:=sHe hd 0 11 rfl rfl rfl rfl
         have e18:=sHe hd 1 18 rfl rfl rfl rfl
         exact dv0 (r_pick_t e11 e18) rfl rfl rfl
        intro a w12 hF bb hall hne
        replace st:=st.to bb
        have e19:=sSe hall 10 19 rfl rfl
        clear hall hne bb
        replace hF:=hF.add e19
        clear e19
        refine E.nil ?_
        refine wp_cond_false (hF.at 0 rfl) ?_
        refine wp_exit ?_
        refine E.past ?_
        refine E.past ?_
        refine E.out (id:=0) ?_
        refine E.norm ?_
        refine wp_seq ?_
        refine wp_seq ?_
        refine E.seq ?_
        refine E.opv hF (r_move (hF.at 1 rfl)) rfl rfl rfl rfl fun a hF=>?_
        by_cases hc13:((j:Nat):Int)=24
        ·first
         |(exfalso;omega)
         |(refine E.opv hF (r_bin (hF.at 0 rfl) ev_c eg_scalar (bi_int (ic_eql (c:=true) (dec_tt hc13)) (by simp))) rfl rfl rfl rfl fun a hF=>?_
           refine E.nil ?_
           refine wp_cond_true (hF.at 0 rfl) ?_
           refine wp_seq ?_
           refine E.seq ?_
           refine S.call st hF (r_call Tryz.func38 en38.1 en38.2 (map2 ev_c ev_c)) (dOf1b_any (90) _ (by decide) (by decide)) (fun _ _ h=>h) Rr.cl rfl rfl rfl rfl fun vv15 w14 a st hF=>?_
           obtain⟨b17,ad17,n17,c17,ae17,m17,d17,rfl⟩:=Rr.form (st.f 0 rfl)
           refine S.sto st hF 1 rfl (hF.at 6 rfl) (hF.at 0 rfl) ty_RRat rfl rfl rfl rfl fun w18 a st hF=>?_
           refine E.nil ?_
           refine wp_ret ?_
           refine S.ret Tryz.results230 st hF (hF.at 6 rfl) 1 rfl ty_RRat rfl hF.dfr ?_
           have bel:=st.bel
           have e24:j=24:=by omega
           subst e24
           exact⟨_,rfl,Rr.cast (Rr.up (st.f 0 rfl) _ (by omega)) (arc_end hx hyk.symm),bel⟩)
        ·first
         |(exfalso;omega)
         |(refine E.opv hF (r_bin (hF.at 0 rfl) ev_c eg_scalar (bi_int (ic_eql (c:=false) (dec_ff hc13)) (by simp))) rfl rfl rfl rfl fun a hF=>?_
           refine E.nil ?_
           refine wp_cond_false (hF.at 0 rfl) ?_
           refine wp_skip ?_
           refine E.norm ?_
           refine wp_seq ?_
           refine E.drawn 14 mixed hF [25,26,27,28,29,30,31,32,33,34,35,36,37,5] [(fun _ v=>v= .agg #[.bool b6,.slice ad6 n6 c6,.slice ae6 m6 d6]),(fun _ v=>v= .int .i64 ((j:Nat):Int)),(fun _ v=>v= .int .i64 (spk ((j:Nat):Int))),(fun w v=>Rr w v (((spk ((j:Nat):Int):Int):Rat)) (2)),(fun w v=>Rr w v (((q1)*(((3438:Int):Rat)))-(((spk ((j:Nat):Int):Int):Rat))) (((k+2)+2+1))),(fun _ v=>v= .int .i64 ((j:Nat):Int)),(fun _ v=>v= .int .i64 (((j:Nat):Int)+1)),(fun _ v=>v= .int .i64 (spk (((j:Nat):Int)+1))),(fun _ v=>v= .int .i64 ((j:Nat):Int)),(fun _ v=>v= .int .i64 (spk ((j:Nat):Int))),(fun _ v=>v= .int .i64 ((spk (((j:Nat):Int)+1))-(spk ((j:Nat):Int)))),(fun w v=>Rr w v ((((spk (((j:Nat):Int)+1))-(spk ((j:Nat):Int)):Int):Rat)) (2)),(fun w v=>Rr w v ((((q1)*(((3438:Int):Rat)))-(((spk ((j:Nat):Int):Int):Rat)))/((((spk (((j:Nat):Int)+1))-(spk ((j:Nat):Int)):Int):Rat))) ((((k+2)+2+1)+2))),(fun w v=>∃g,v= .pointer (some ⟨g,0,none⟩)∧w12.heap.size≤g∧Own w g [.bool false,.slice none 0 0,.slice none 0 0])] [13] (by decide+kernel) (by decide+kernel) rfl rfl rfl ⟨(Mb.eq _),(Mb.eq _),(Mb.eq _),(fun _ _ _ h hb=>h.below hb),(fun _ _ _ h hb=>h.below hb),(Mb.eq _),(Mb.eq _),(Mb.eq _),(Mb.eq _),(Mb.eq _),(Mb.eq _),(fun _ _ _ h hb=>h.below hb),(fun _ _ _ h hb=>h.below hb),(fun _ _ _ ⟨g,e,l,o⟩ hb=>⟨g,e,l,o.below hb⟩),trivial⟩ ⟨fun _ _ ⟨g,e,_,o⟩=>⟨g,e,o.lt⟩,trivial⟩ ⟨?_,?_,?_,?_,?_,?_,?_,?_,?_,?_,?_,?_,?_,?_,trivial⟩ ?_
           ·intro a' w' hF' hb hd
            exact dv0 (r_load (hF'.at 4 rfl) (ld_all ty_RRat ((st.bk 0 rfl).below hb) rfl)) rfl rfl rfl
           ·intro a' w' hF' hb hd
            exact dv0 (r_move (hF'.at 3 rfl)) rfl rfl rfl
           ·intro a' w' hF' hb hd
            have e26:=sHe hd 0 26 rfl rfl rfl rfl
            exact dcx0 (r_call Tryz.func251 en251.1 en251.2 (map1 e26)) (high_spd ((j:Nat):Int) _ (by omega) (by omega)) (fun _=>rfl) rfl rfl
           ·intro a' w' hF' hb hd
            have e27:=sHe hd 0 27 rfl rfl rfl rfl
            exact dc0 (r_call Tryz.func38 en38.1 en38.2 (map2 e27 ev_c)) (dOf1b_any (spk ((j:Nat):Int)) _ (by have:=spk64S ((j:Nat):Int);omega) (by have:=spk64S ((j:Nat):Int);omega)) rfl rfl
           ·intro a' w' hF' hb hd
            have e25:=sHe hd 0 25 rfl rfl rfl rfl
            obtain⟨v28_0,e28,h28_1⟩:=sH hd 1 28 rfl rfl rfl rfl
            exact dc0 (r_call Tryz.func80 en80.1 en80.2 (map2 e25 e28)) (dSub2_any _ _ _ _ (k+2) 2 _ ((st.f 0 rfl).below hb) h28_1 (by omega) (by omega) (by omega) (by omega)) rfl rfl
           ·intro a' w' hF' hb hd
            exact dv0 (r_move (hF'.at 3 rfl)) rfl rfl rfl
           ·intro a' w' hF' hb hd
            have e30:=sHe hd 0 30 rfl rfl rfl rfl
            exact dv0 (r_bin e30 ev_c eg_scalar (ia_add (by omega) (by omega))) rfl rfl rfl
           ·intro a' w' hF' hb hd
            have e31:=sHe hd 0 31 rfl rfl rfl rfl
            exact dcx0 (r_call Tryz.func251 en251.1 en251.2 (map1 e31)) (high_spd (((j:Nat):Int)+1) _ (by omega) (by omega)) (fun _=>rfl) rfl rfl
           ·intro a' w' hF' hb hd
            exact dv0 (r_move (hF'.at 3 rfl)) rfl rfl rfl
           ·intro a' w' hF' hb hd
            have e33:=sHe hd 0 33 rfl rfl rfl rfl
            exact dcx0 (r_call Tryz.func251 en251.1 en251.2 (map1 e33)) (high_spd ((j:Nat):Int) _ (by omega) (by omega)) (fun _=>rfl) rfl rfl
           ·intro a' w' hF' hb hd
            have e32:=sHe hd 0 32 rfl rfl rfl rfl
            have e34:=sHe hd 1 34 rfl rfl rfl rfl
            exact dv0 (r_bin e32 e34 eg_scalar (ia_sub (by omega) (by omega))) rfl rfl rfl
           ·intro a' w' hF' hb hd
            have e35:=sHe hd 0 35 rfl rfl rfl rfl
            exact dc0 (r_call Tryz.func38 en38.1 en38.2 (map2 e35 ev_c)) (dOf1b_any ((spk (((j:Nat):Int)+1))-(spk ((j:Nat):Int))) _ (by omega) (by omega)) rfl rfl
           ·intro a' w' hF' hb hd
            obtain⟨v29_0,e29,h29_1⟩:=sH hd 0 29 rfl rfl rfl rfl
            obtain⟨v36_0,e36,h36_1⟩:=sH hd 1 36 rfl rfl rfl rfl
            exact dc0 (r_call Tryz.func81 en81.1 en81.2 (map2 e29 e36)) (dDiv2_any _ _ _ _ ((k+2)+2+1) 2 _ h29_1 h36_1 (by omega) (by omega) (by omega) (by omega)) rfl rfl
           ·intro a' w' hF' hb hd
            exact da0 ty_RRat rfl hb.size rfl
           intro a w19 hF bb hall hne
           have s0:=st
           replace st:=st.to bb
           obtain⟨vv20,e37,hh21⟩:=sS hall 12 37 rfl rfl
           replace st:=st.add hh21 (Rr.cl _)
           clear hh21
           obtain⟨_,e5,g5,rfl,ge5,o5⟩:=sS hall 13 5 rfl rfl
           replace st:=st.push o5.blk (Nat.le_trans s0.bel.size ge5) (s0.ne ge5)
           clear o5
           clear hall hne bb s0
           obtain⟨b22,ad22,n22,c22,ae22,m22,d22,rfl⟩:=Rr.form (st.f 0 rfl)
           replace hF:=hF.add e37
           clear e37
           replace hF:=hF.add e5
           clear e5
           refine S.sto st hF 0 rfl (hF.at 0 rfl) (hF.at 1 rfl) ty_RRat rfl rfl rfl rfl fun w23 a st hF=>?_
           refine E.nil ?_
           refine wp_seq ?_
           refine E.drawn 6 mixed hF [38,39,40,41,42,43] [(fun _ v=>v= .int .i64 ((j:Nat):Int)),(fun w v=>Rr w v (((((j:Nat):Int):Int):Rat)) (2)),(fun _ v=>v= .agg #[.bool b22,.slice ad22 n22 c22,.slice ae22 m22 d22]),(fun w v=>Rr w v ((((((j:Nat):Int):Int):Rat))+((((q1)*(((3438:Int):Rat)))-(((spk ((j:Nat):Int):Int):Rat)))/((((spk (((j:Nat):Int)+1))-(spk ((j:Nat):Int)):Int):Rat)))) ((2+(((k+2)+2+1)+2)+1))),(fun w v=>Rr w v (((15:Int):Rat)/((4:Int):Rat)) (2)),(fun w v=>Rr w v (((((((j:Nat):Int):Int):Rat))+((((q1)*(((3438:Int):Rat)))-(((spk ((j:Nat):Int):Int):Rat)))/((((spk (((j:Nat):Int)+1))-(spk ((j:Nat):Int)):Int):Rat))))*(((15:Int):Rat)/((4:Int):Rat))) (((2+(((k+2)+2+1)+2)+1)+2)))] [] (by decide+kernel) (by decide+kernel) rfl rfl rfl ⟨(Mb.eq _),(fun _ _ _ h hb=>h.below hb),(Mb.eq _),(fun _ _ _ h hb=>h.below hb),(fun _ _ _ h hb=>h.below hb),(fun _ _ _ h hb=>h.below hb),trivial⟩ trivial ⟨?_,?_,?_,?_,?_,?_,trivial⟩ ?_
           ·intro a' w' hF' hb hd
            exact dv0 (r_move (hF'.at 5 rfl)) rfl rfl rfl
           ·intro a' w' hF' hb hd
            have e38:=sHe hd 0 38 rfl rfl rfl rfl
            exact dc0 (r_call Tryz.func38 en38.1 en38.2 (map2 e38 ev_c)) (dOf1b_any (((j:Nat):Int)) _ (by omega) (by omega)) rfl rfl
           ·intro a' w' hF' hb hd
            exact dv0 (r_load (hF'.at 0 rfl) (ld_all ty_RRat ((st.bk 0 rfl).below hb) rfl)) rfl rfl rfl
           ·intro a' w' hF' hb hd
            obtain⟨v39_0,e39,h39_1⟩:=sH hd 0 39 rfl rfl rfl rfl
            have e40:=sHe hd 1 40 rfl rfl rfl rfl
            exact dc0 (r_call Tryz.func62 en62.1 en62.2 (map2 e39 e40)) (dAdd2_any _ _ _ _ 2 (((k+2)+2+1)+2) _ h39_1 ((st.f 0 rfl).below hb) (by omega) (by omega) (by omega) (by omega)) rfl rfl
           ·intro a' w' hF' hb hd
            exact dc0 (r_call Tryz.func38 en38.1 en38.2 (map2 ev_c ev_c)) (dOf_any (15) (4) _ (by decide) (by decide) (by decide) (by decide)) rfl rfl
           ·intro a' w' hF' hb hd
            obtain⟨v41_0,e41,h41_1⟩:=sH hd 0 41 rfl rfl rfl rfl
            obtain⟨v42_0,e42,h42_1⟩:=sH hd 1 42 rfl rfl rfl rfl
            exact dc0 (r_call Tryz.func63 en63.1 en63.2 (map2 e41 e42)) (dMul2_any _ _ _ _ (2+(((k+2)+2+1)+2)+1) 2 _ h41_1 h42_1 (by omega) (by omega) (by omega) (by omega)) rfl rfl
           intro a w24 hF bb hall hne
           replace st:=st.to bb
           obtain⟨vv25,e43,hh26⟩:=sS hall 5 43 rfl rfl
           replace st:=st.add hh26 (Rr.cl _)
           clear hh26
           clear hall hne bb
           obtain⟨b27,ad27,n27,c27,ae27,m27,d27,rfl⟩:=Rr.form (st.f 0 rfl)
           replace hF:=hF.add e43
           clear e43
           refine S.sto st hF 2 rfl (hF.at 8 rfl) (hF.at 0 rfl) ty_RRat rfl rfl rfl rfl fun w28 a st hF=>?_
           refine E.nil ?_
           refine wp_ret ?_
           refine S.ret Tryz.results230 st hF (hF.at 8 rfl) 2 rfl ty_RRat rfl hF.dfr ?_
           have bel:=st.bel
           exact⟨_,rfl,Rr.cast (Rr.up (st.f 0 rfl) _ (by omega)) (darc_here hx (by omega) (yk_here (by omega) hyk hc10)),bel⟩)))
  ·first
   |(exfalso;omega)
   |(refine E.drawn 11 mixed hF [9,10,11,12,13,14,15,16,17,18,19] [(fun _ v=>v= .int .i64 ((j:Nat):Int)),(fun _ v=>v= .bool false),(fun _ v=>v= .bool false),(fun _ v=>v=undef),(fun _ v=>v=undef),(fun _ v=>v=undef),(fun _ v=>v=undef),(fun _ v=>v=undef),(fun _ v=>v=undef),(fun _ v=>v=undef),(fun _ v=>v= .bool false)] [] (by decide+kernel) (by decide+kernel) rfl rfl rfl ⟨(Mb.eq _),(Mb.eq _),(Mb.eq _),(Mb.eq _),(Mb.eq _),(Mb.eq _),(Mb.eq _),(Mb.eq _),(Mb.eq _),(Mb.eq _),(Mb.eq _),trivial⟩ trivial ⟨?_,?_,?_,?_,?_,?_,?_,?_,?_,?_,?_,trivial⟩ ?_
     ·intro a' w' hF' hb hd
      exact dv0 (r_move (hF'.at 0 rfl)) rfl rfl rfl
     ·intro a' w' hF' hb hd
      have e9:=sHe hd 0 9 rfl rfl rfl rfl
      exact dv0 (r_bin e9 ev_c eg_scalar (bi_int (ic_lss (c:=false) (dec_ff hc9)) (by simp))) rfl rfl rfl
     ·intro a' w' hF' hb hd
      have e10:=sHe hd 0 10 rfl rfl rfl rfl
      exact dv0 (r_move e10) rfl rfl rfl
     ·intro a' w' hF' hb hd
      have e11:=sHe hd 0 11 rfl rfl rfl rfl
      exact if_not (wanted_by rfl rfl e11 rfl) ⟨rfl,by decide⟩
     ·intro a' w' hF' hb hd
      have e11:=sHe hd 0 11 rfl rfl rfl rfl
      exact if_not (wanted_by rfl rfl e11 rfl) ⟨rfl,by decide⟩
     ·intro a' w' hF' hb hd
      have e11:=sHe hd 1 11 rfl rfl rfl rfl
      exact if_not (wanted_by rfl rfl e11 rfl) ⟨rfl,by decide⟩
     ·intro a' w' hF' hb hd
      have e11:=sHe hd 1 11 rfl rfl rfl rfl
      exact if_not (wanted_by rfl rfl e11 rfl) ⟨rfl,by decide⟩
     ·intro a' w' hF' hb hd
      have e11:=sHe hd 2 11 rfl rfl rfl rfl
      exact if_not (wanted_by rfl rfl e11 rfl) ⟨rfl,by decide⟩
     ·intro a' w' hF' hb hd
      have e11:=sHe hd 3 11 rfl rfl rfl rfl
      exact if_not (wanted_by rfl rfl e11 rfl) ⟨rfl,by decide⟩
     ·intro a' w' hF' hb hd
      have e11:=sHe hd 1 11 rfl rfl rfl rfl
      exact if_not (wanted_by rfl rfl e11 rfl) ⟨rfl,by decide⟩
     ·intro a' w' hF' hb hd
      have e11:=sHe hd 0 11 rfl rfl rfl rfl
      exact dv0 (r_pick_f e11 ev_c) rfl rfl rfl
     intro a w29 hF bb hall hne
     replace st:=st.to bb
     have e19:=sSe hall 10 19 rfl rfl
     clear hall hne bb
     replace hF:=hF.add e19
     clear e19
     refine E.nil ?_
     refine wp_cond_false (hF.at 0 rfl) ?_
     refine wp_exit ?_
     refine E.past ?_
     refine E.past ?_
     refine E.out (id:=0) ?_
     refine E.norm ?_
     refine wp_seq ?_
     refine wp_seq ?_
     refine E.seq ?_
     refine E.opv hF (r_move (hF.at 1 rfl)) rfl rfl rfl rfl fun a hF=>?_
     by_cases hc30:((j:Nat):Int)=24
     ·first
      |(exfalso;omega)
      |(refine E.opv hF (r_bin (hF.at 0 rfl) ev_c eg_scalar (bi_int (ic_eql (c:=true) (dec_tt hc30)) (by simp))) rfl rfl rfl rfl fun a hF=>?_
        refine E.nil ?_
        refine wp_cond_true (hF.at 0 rfl) ?_
        refine wp_seq ?_
        refine E.seq ?_
        refine S.call st hF (r_call Tryz.func38 en38.1 en38.2 (map2 ev_c ev_c)) (dOf1b_any (90) _ (by decide) (by decide)) (fun _ _ h=>h) Rr.cl rfl rfl rfl rfl fun vv32 w31 a st hF=>?_
        obtain⟨b34,ad34,n34,c34,ae34,m34,d34,rfl⟩:=Rr.form (st.f 0 rfl)
        refine S.sto st hF 1 rfl (hF.at 6 rfl) (hF.at 0 rfl) ty_RRat rfl rfl rfl rfl fun w35 a st hF=>?_
        refine E.nil ?_
        refine wp_ret ?_
        refine S.ret Tryz.results230 st hF (hF.at 6 rfl) 1 rfl ty_RRat rfl hF.dfr ?_
        have bel:=st.bel
        have e24:j=24:=by omega
        subst e24
        exact⟨_,rfl,Rr.cast (Rr.up (st.f 0 rfl) _ (by omega)) (arc_end hx hyk.symm),bel⟩)
     ·first
      |(exfalso;omega)
      |(refine E.opv hF (r_bin (hF.at 0 rfl) ev_c eg_scalar (bi_int (ic_eql (c:=false) (dec_ff hc30)) (by simp))) rfl rfl rfl rfl fun a hF=>?_
        refine E.nil ?_
        refine wp_cond_false (hF.at 0 rfl) ?_
        refine wp_skip ?_
        refine E.norm ?_
        refine wp_seq ?_
        refine E.drawn 14 mixed hF [25,26,27,28,29,30,31,32,33,34,35,36,37,5] [(fun _ v=>v= .agg #[.bool b6,.slice ad6 n6 c6,.slice ae6 m6 d6]),(fun _ v=>v= .int .i64 ((j:Nat):Int)),(fun _ v=>v= .int .i64 (spk ((j:Nat):Int))),(fun w v=>Rr w v (((spk ((j:Nat):Int):Int):Rat)) (2)),(fun w v=>Rr w v (((q1)*(((3438:Int):Rat)))-(((spk ((j:Nat):Int):Int):Rat))) (((k+2)+2+1))),(fun _ v=>v= .int .i64 ((j:Nat):Int)),(fun _ v=>v= .int .i64 (((j:Nat):Int)+1)),(fun _ v=>v= .int .i64 (spk (((j:Nat):Int)+1))),(fun _ v=>v= .int .i64 ((j:Nat):Int)),(fun _ v=>v= .int .i64 (spk ((j:Nat):Int))),(fun _ v=>v= .int .i64 ((spk (((j:Nat):Int)+1))-(spk ((j:Nat):Int)))),(fun w v=>Rr w v ((((spk (((j:Nat):Int)+1))-(spk ((j:Nat):Int)):Int):Rat)) (2)),(fun w v=>Rr w v ((((q1)*(((3438:Int):Rat)))-(((spk ((j:Nat):Int):Int):Rat)))/((((spk (((j:Nat):Int)+1))-(spk ((j:Nat):Int)):Int):Rat))) ((((k+2)+2+1)+2))),(fun w v=>∃g,v= .pointer (some ⟨g,0,none⟩)∧w29.heap.size≤g∧Own w g [.bool false,.slice none 0 0,.slice none 0 0])] [13] (by decide+kernel) (by decide+kernel) rfl rfl rfl ⟨(Mb.eq _),(Mb.eq _),(Mb.eq _),(fun _ _ _ h hb=>h.below hb),(fun _ _ _ h hb=>h.below hb),(Mb.eq _),(Mb.eq _),(Mb.eq _),(Mb.eq _),(Mb.eq _),(Mb.eq _),(fun _ _ _ h hb=>h.below hb),(fun _ _ _ h hb=>h.below hb),(fun _ _ _ ⟨g,e,l,o⟩ hb=>⟨g,e,l,o.below hb⟩),trivial⟩ ⟨fun _ _ ⟨g,e,_,o⟩=>⟨g,e,o.lt⟩,trivial⟩ ⟨?_,?_,?_,?_,?_,?_,?_,?_,?_,?_,?_,?_,?_,?_,trivial⟩ ?_
        ·intro a' w' hF' hb hd
         exact dv0 (r_load (hF'.at 4 rfl) (ld_all ty_RRat ((st.bk 0 rfl).below hb) rfl)) rfl rfl rfl
        ·intro a' w' hF' hb hd
         exact dv0 (r_move (hF'.at 3 rfl)) rfl rfl rfl
        ·intro a' w' hF' hb hd
         have e26:=sHe hd 0 26 rfl rfl rfl rfl
         exact dcx0 (r_call Tryz.func251 en251.1 en251.2 (map1 e26)) (high_spd ((j:Nat):Int) _ (by omega) (by omega)) (fun _=>rfl) rfl rfl
        ·intro a' w' hF' hb hd
         have e27:=sHe hd 0 27 rfl rfl rfl rfl
         exact dc0 (r_call Tryz.func38 en38.1 en38.2 (map2 e27 ev_c)) (dOf1b_any (spk ((j:Nat):Int)) _ (by have:=spk64S ((j:Nat):Int);omega) (by have:=spk64S ((j:Nat):Int);omega)) rfl rfl
        ·intro a' w' hF' hb hd
         have e25:=sHe hd 0 25 rfl rfl rfl rfl
         obtain⟨v28_0,e28,h28_1⟩:=sH hd 1 28 rfl rfl rfl rfl
         exact dc0 (r_call Tryz.func80 en80.1 en80.2 (map2 e25 e28)) (dSub2_any _ _ _ _ (k+2) 2 _ ((st.f 0 rfl).below hb) h28_1 (by omega) (by omega) (by omega) (by omega)) rfl rfl
        ·intro a' w' hF' hb hd
         exact dv0 (r_move (hF'.at 3 rfl)) rfl rfl rfl
        ·intro a' w' hF' hb hd
         have e30:=sHe hd 0 30 rfl rfl rfl rfl
         exact dv0 (r_bin e30 ev_c eg_scalar (ia_add (by omega) (by omega))) rfl rfl rfl
        ·intro a' w' hF' hb hd
         have e31:=sHe hd 0 31 rfl rfl rfl rfl
         exact dcx0 (r_call Tryz.func251 en251.1 en251.2 (map1 e31)) (high_spd (((j:Nat):Int)+1) _ (by omega) (by omega)) (fun _=>rfl) rfl rfl
        ·intro a' w' hF' hb hd
         exact dv0 (r_move (hF'.at 3 rfl)) rfl rfl rfl
        ·intro a' w' hF' hb hd
         have e33:=sHe hd 0 33 rfl rfl rfl rfl
         exact dcx0 (r_call Tryz.func251 en251.1 en251.2 (map1 e33)) (high_spd ((j:Nat):Int) _ (by omega) (by omega)) (fun _=>rfl) rfl rfl
        ·intro a' w' hF' hb hd
         have e32:=sHe hd 0 32 rfl rfl rfl rfl
         have e34:=sHe hd 1 34 rfl rfl rfl rfl
         exact dv0 (r_bin e32 e34 eg_scalar (ia_sub (by omega) (by omega))) rfl rfl rfl
        ·intro a' w' hF' hb hd
         have e35:=sHe hd 0 35 rfl rfl rfl rfl
         exact dc0 (r_call Tryz.func38 en38.1 en38.2 (map2 e35 ev_c)) (dOf1b_any ((spk (((j:Nat):Int)+1))-(spk ((j:Nat):Int))) _ (by omega) (by omega)) rfl rfl
        ·intro a' w' hF' hb hd
         obtain⟨v29_0,e29,h29_1⟩:=sH hd 0 29 rfl rfl rfl rfl
         obtain⟨v36_0,e36,h36_1⟩:=sH hd 1 36 rfl rfl rfl rfl
         exact dc0 (r_call Tryz.func81 en81.1 en81.2 (map2 e29 e36)) (dDiv2_any _ _ _ _ ((k+2)+2+1) 2 _ h29_1 h36_1 (by omega) (by omega) (by omega) (by omega)) rfl rfl
        ·intro a' w' hF' hb hd
         exact da0 ty_RRat rfl hb.size rfl
        intro a w36 hF bb hall hne
        have s0:=st
        replace st:=st.to bb
        obtain⟨vv37,e37,hh38⟩:=sS hall 12 37 rfl rfl
        replace st:=st.add hh38 (Rr.cl _)
        clear hh38
        obtain⟨_,e5,g5,rfl,ge5,o5⟩:=sS hall 13 5 rfl rfl
        replace st:=st.push o5.blk (Nat.le_trans s0.bel.size ge5) (s0.ne ge5)
        clear o5
        clear hall hne bb s0
        obtain⟨b39,ad39,n39,c39,ae39,m39,d39,rfl⟩:=Rr.form (st.f 0 rfl)
        replace hF:=hF.add e37
        clear e37
        replace hF:=hF.add e5
        clear e5
        refine S.sto st hF 0 rfl (hF.at 0 rfl) (hF.at 1 rfl) ty_RRat rfl rfl rfl rfl fun w40 a st hF=>?_
        refine E.nil ?_
        refine wp_seq ?_
        refine E.drawn 6 mixed hF [38,39,40,41,42,43] [(fun _ v=>v= .int .i64 ((j:Nat):Int)),(fun w v=>Rr w v (((((j:Nat):Int):Int):Rat)) (2)),(fun _ v=>v= .agg #[.bool b39,.slice ad39 n39 c39,.slice ae39 m39 d39]),(fun w v=>Rr w v ((((((j:Nat):Int):Int):Rat))+((((q1)*(((3438:Int):Rat)))-(((spk ((j:Nat):Int):Int):Rat)))/((((spk (((j:Nat):Int)+1))-(spk ((j:Nat):Int)):Int):Rat)))) ((2+(((k+2)+2+1)+2)+1))),(fun w v=>Rr w v (((15:Int):Rat)/((4:Int):Rat)) (2)),(fun w v=>Rr w v (((((((j:Nat):Int):Int):Rat))+((((q1)*(((3438:Int):Rat)))-(((spk ((j:Nat):Int):Int):Rat)))/((((spk (((j:Nat):Int)+1))-(spk ((j:Nat):Int)):Int):Rat))))*(((15:Int):Rat)/((4:Int):Rat))) (((2+(((k+2)+2+1)+2)+1)+2)))] [] (by decide+kernel) (by decide+kernel) rfl rfl rfl ⟨(Mb.eq _),(fun _ _ _ h hb=>h.below hb),(Mb.eq _),(fun _ _ _ h hb=>h.below hb),(fun _ _ _ h hb=>h.below hb),(fun _ _ _ h hb=>h.below hb),trivial⟩ trivial ⟨?_,?_,?_,?_,?_,?_,trivial⟩ ?_
        ·intro a' w' hF' hb hd
         exact dv0 (r_move (hF'.at 5 rfl)) rfl rfl rfl
        ·intro a' w' hF' hb hd
         have e38:=sHe hd 0 38 rfl rfl rfl rfl
         exact dc0 (r_call Tryz.func38 en38.1 en38.2 (map2 e38 ev_c)) (dOf1b_any (((j:Nat):Int)) _ (by omega) (by omega)) rfl rfl
        ·intro a' w' hF' hb hd
         exact dv0 (r_load (hF'.at 0 rfl) (ld_all ty_RRat ((st.bk 0 rfl).below hb) rfl)) rfl rfl rfl
        ·intro a' w' hF' hb hd
         obtain⟨v39_0,e39,h39_1⟩:=sH hd 0 39 rfl rfl rfl rfl
         have e40:=sHe hd 1 40 rfl rfl rfl rfl
         exact dc0 (r_call Tryz.func62 en62.1 en62.2 (map2 e39 e40)) (dAdd2_any _ _ _ _ 2 (((k+2)+2+1)+2) _ h39_1 ((st.f 0 rfl).below hb) (by omega) (by omega) (by omega) (by omega)) rfl rfl
        ·intro a' w' hF' hb hd
         exact dc0 (r_call Tryz.func38 en38.1 en38.2 (map2 ev_c ev_c)) (dOf_any (15) (4) _ (by decide) (by decide) (by decide) (by decide)) rfl rfl
        ·intro a' w' hF' hb hd
         obtain⟨v41_0,e41,h41_1⟩:=sH hd 0 41 rfl rfl rfl rfl
         obtain⟨v42_0,e42,h42_1⟩:=sH hd 1 42 rfl rfl rfl rfl
         exact dc0 (r_call Tryz.func63 en63.1 en63.2 (map2 e41 e42)) (dMul2_any _ _ _ _ (2+(((k+2)+2+1)+2)+1) 2 _ h41_1 h42_1 (by omega) (by omega) (by omega) (by omega)) rfl rfl
        intro a w41 hF bb hall hne
        replace st:=st.to bb
        obtain⟨vv42,e43,hh43⟩:=sS hall 5 43 rfl rfl
        replace st:=st.add hh43 (Rr.cl _)
        clear hh43
        clear hall hne bb
        obtain⟨b44,ad44,n44,c44,ae44,m44,d44,rfl⟩:=Rr.form (st.f 0 rfl)
        replace hF:=hF.add e43
        clear e43
        refine S.sto st hF 2 rfl (hF.at 8 rfl) (hF.at 0 rfl) ty_RRat rfl rfl rfl rfl fun w45 a st hF=>?_
        refine E.nil ?_
        refine wp_ret ?_
        refine S.ret Tryz.results230 st hF (hF.at 8 rfl) 2 rfl ty_RRat rfl hF.dfr ?_
        have bel:=st.bel
        exfalso;omega))
theorem rarc2_any (v1:Value) (q1:Rat) (k:Nat) (w:World) (h1:Rr w v1 q1 k) (hp:1≤k) (hk:k≤6000):
 Calls Tryz.prog 192 #[v1] w (RrPost w (arcv q1) (k+20)):=by
 have rl1:=h1.rlim
 obtain⟨b1,ad1,n1,c1,ae1,m1,d1,z1,D1,rfl,hn1,hd1,hD1,hq1,lz1,lD1⟩:=h1.shape
 have h1:Rr w (.agg #[.bool b1,.slice ad1 n1 c1,.slice ae1 m1 d1]) q1 k:=⟨_,_,_,_,_,_,_,_,_,rfl,hn1,hd1,hD1,hq1,lz1,lD1⟩
 have ha1:=hn1.abs
 have hb1:=hn1.neg
 replace hq1:=Lib.hid hq1
 by_cases hn:sz (Rat.num (q1))<0
 ·have hx:q1<0:=sz_lt0.1 hn
  have st:=St.start w
  refine E.enter (nt:=12) (L:=[(0,.agg #[.bool b1,.slice ad1 n1 c1,.slice ae1 m1 d1])]) Tryz.func192 rfl rfl rfl (args_cons (i:=0) rfl args_nil) ?_
  intro a hF
  refine wp_seq ?_
  refine E.seq ?_
  refine S.box st hF (hF.at 0 rfl) rfl rfl fun g1 w1 a st hF=>?_
  refine S.alloc st hF ty_RRat rfl rfl fun g2 w2 a st hF=>?_
  refine E.nil ?_
  refine wp_seq ?_
  refine wp_seq ?_
  refine E.seq ?_
  refine E.opv hF (r_load (hF.at 1 rfl) (ld_all ty_RRat (st.bk 1 rfl) rfl)) rfl rfl rfl rfl fun a hF=>?_
  refine S.callx st hF (rgc k193 (map1 (hF.at 0 rfl))) (dSgn_any _ (q1) k _ (h1.below st.bel)) rfl rfl rfl rfl fun w3 a st hF=>?_
  refine E.opv hF (r_bin (hF.at 0 rfl) ev_c eg_scalar (bi_int (ic_lss (c:=true) (dec_tt hn)) (by simp))) rfl rfl rfl rfl fun a hF=>?_
  refine E.nil ?_
  refine wp_cond_true (hF.at 0 rfl) ?_
  refine wp_seq ?_
  refine E.seq ?_
  refine E.opv hF (r_load (hF.at 4 rfl) (ld_all ty_RRat (st.bk 1 rfl) rfl)) rfl rfl rfl rfl fun a hF=>?_
  refine S.ck st hF (rgc k145 (map1 (hF.at 0 rfl))) (rr_ret (dOpp_any _ (q1) k _ (h1.below st.bel)) (rlim_neg rl1)) Rh.cl rfl fun vv5 w4 a st hF=>?_
  obtain⟨b7,ad7,n7,c7,ae7,m7,d7,rfl⟩:=Rr.form (st.f 0 rfl).1
  refine S.call st hF (rgc k230 (map1 (hF.at 0 rfl))) (rarc2_pos _ (-(q1)) k _ (st.f 0 rfl).1 (by omega) (by omega) (fun e=>neg_not hx (sz_lt0.2 e))) (fun _ _ h=>h) Rr.cl rfl rfl rfl rfl fun vv9 w8 a st hF=>?_
  obtain⟨b11,ad11,n11,c11,ae11,m11,d11,rfl⟩:=Rr.form (st.f 0 rfl)
  refine S.call st hF (rgc k145 (map1 (hF.at 0 rfl))) (dOpp_any _ _ (k+20) _ (st.f 0 rfl)) (fun _ _ h=>h) Rr.cl rfl rfl rfl rfl fun vv13 w12 a st hF=>?_
  obtain⟨b15,ad15,n15,c15,ae15,m15,d15,rfl⟩:=Rr.form (st.f 0 rfl)
  refine S.sto st hF 0 rfl (hF.at 7 rfl) (hF.at 0 rfl) ty_RRat rfl rfl rfl rfl fun w16 a st hF=>?_
  refine E.nil ?_
  refine wp_ret ?_
  refine S.ret Tryz.results192 st hF (hF.at 7 rfl) 0 rfl ty_RRat rfl hF.dfr ?_
  have bel:=st.bel
  exact⟨_,rfl,Rr.cast (Rr.up (st.f 0 rfl) _ (by omega)) (arc_neg hx),bel⟩
 ·have hx:¬q1<0:=fun e=>hn (sz_lt0.2 e)
  have st:=St.start w
  refine E.enter (nt:=12) (L:=[(0,.agg #[.bool b1,.slice ad1 n1 c1,.slice ae1 m1 d1])]) Tryz.func192 rfl rfl rfl (args_cons (i:=0) rfl args_nil) ?_
  intro a hF
  refine wp_seq ?_
  refine E.seq ?_
  refine S.box st hF (hF.at 0 rfl) rfl rfl fun g1 w1 a st hF=>?_
  refine S.alloc st hF ty_RRat rfl rfl fun g2 w2 a st hF=>?_
  refine E.nil ?_
  refine wp_seq ?_
  refine wp_seq ?_
  refine E.seq ?_
  refine E.opv hF (r_load (hF.at 1 rfl) (ld_all ty_RRat (st.bk 1 rfl) rfl)) rfl rfl rfl rfl fun a hF=>?_
  refine S.callx st hF (rgc k193 (map1 (hF.at 0 rfl))) (dSgn_any _ (q1) k _ (h1.below st.bel)) rfl rfl rfl rfl fun w3 a st hF=>?_
  refine E.opv hF (r_bin (hF.at 0 rfl) ev_c eg_scalar (bi_int (ic_lss (c:=false) (dec_ff hn)) (by simp))) rfl rfl rfl rfl fun a hF=>?_
  refine E.nil ?_
  refine wp_cond_false (hF.at 0 rfl) ?_
  refine wp_skip ?_
  refine E.norm ?_
  refine wp_seq ?_
  refine E.seq ?_
  refine E.opv hF (r_load (hF.at 4 rfl) (ld_all ty_RRat (st.bk 1 rfl) rfl)) rfl rfl rfl rfl fun a hF=>?_
  refine S.call st hF (rgc k230 (map1 (hF.at 0 rfl))) (rarc2_pos _ (q1) k _ (h1.below st.bel) (by omega) (by omega) hx) (fun _ _ h=>h) Rr.cl rfl rfl rfl rfl fun vv5 w4 a st hF=>?_
  obtain⟨b7,ad7,n7,c7,ae7,m7,d7,rfl⟩:=Rr.form (st.f 0 rfl)
  refine S.sto st hF 0 rfl (hF.at 5 rfl) (hF.at 0 rfl) ty_RRat rfl rfl rfl rfl fun w8 a st hF=>?_
  refine E.nil ?_
  refine wp_ret ?_
  refine S.ret Tryz.results192 st hF (hF.at 5 rfl) 0 rfl ty_RRat rfl hF.dfr ?_
  have bel:=st.bel
  exact⟨_,rfl,Rr.cast (Rr.up (st.f 0 rfl) _ (by omega)) rfl,bel⟩
end Go.Proofs.YtnljadejcfgmaaaGreatDoor
