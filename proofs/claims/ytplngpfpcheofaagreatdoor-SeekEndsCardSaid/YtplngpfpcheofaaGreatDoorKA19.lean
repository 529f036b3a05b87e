import Derived.Test.YtplngpfpcheofaaGreatDoorKA18
namespace Go.Proofs.YtplngpfpcheofaaGreatDoor
open Go.RowKit
set_option maxRecDepth 100000
set_option linter.unusedVariables false
set_option maxHeartbeats 8000000
section
section
theorem cross_of {q:Rat} {z:Int} {D:Nat} (h:q=mkRat z D) (hD:0<D):q.num*(D:Int)=z*(q.den:Int):=by
 have h2:mkRat q.num q.den=mkRat z D:=by rw[Rat.mkRat_self];exact h
 exact(Rat.mkRat_eq_iff q.den_nz (by omega)).1 h2
theorem Is5_any (v1 v2:Value) (q1 q2:Rat) (k1 k2:Nat) (w:World) (h1:Rq w v1 q1) (h2:Rr w v2 q2 k2) (l1:RLim q1 k1) (e:q1=q2) (hk1:k1≤20000) (hk2:k2≤20000):
 Calls Tryz.prog 51 #[v1,v2] w (ZeroPost w):=by
 obtain⟨b1,ad1,n1,c1,ae1,m1,d1,rfl,hn1,hd1⟩:=h1.shape
 have h1:Rq w (.agg #[.bool b1,.slice ad1 n1 c1,.slice ae1 m1 d1]) q1:=⟨_,_,_,_,_,_,_,rfl,hn1,hd1⟩
 have ha1:=hn1.abs
 have hb1:=hn1.neg
 replace h2:Rr w v2 q1 k2:=h2.cast e.symm
 clear e q2
 obtain⟨b2,ad2,n2,c2,ae2,m2,d2,z2,D2,rfl,hn2,hd2,hD2,hq2,lz2,lD2⟩:=h2.shape
 have h2:Rr w (.agg #[.bool b2,.slice ad2 n2 c2,.slice ae2 m2 d2]) q1 k2:=⟨_,_,_,_,_,_,_,_,_,rfl,hn2,hd2,hD2,hq2,lz2,lD2⟩
 have ha2:=hn2.abs
 have hb2:=hn2.neg
 replace hq2:=Lib.hid hq2
 have HX:=Lib.hid (cross_of hq2.out hD2)
 have hdl:=dl_pos (by decide:2≤2) (Rat.den_pos q1)
 have st:=St.start w
 refine E.enter (nt:=45) (L:=[(0,.agg #[.bool b1,.slice ad1 n1 c1,.slice ae1 m1 d1]),(1,.agg #[.bool b2,.slice ad2 n2 c2,.slice ae2 m2 d2])]) Tryz.func51 rfl rfl rfl (args_cons (i:=0) rfl (args_cons (i:=1) rfl args_nil)) ?_
 intro a hF
 refine wp_seq ?_
 refine E.seq ?_
 refine S.box st hF (hF.at 0 rfl) rfl rfl fun g2 w1 a st hF=>?_
 refine S.box st hF (hF.at 2 rfl) rfl rfl fun g3 w2 a st hF=>?_
 refine E.opv hF (r_assign ev_c) rfl rfl rfl rfl fun a hF=>?_
 refine E.nil ?_
 refine wp_seq ?_
 refine E.drawn 5 mixed hF [9,10,11,12,5] [(fun _ v=>v= .agg #[.bool b1,.slice ad1 n1 c1,.slice ae1 m1 d1]),(fun w v=>Wc w v (Rat.num (q1))),(fun _ v=>v= .agg #[.bool b1,.slice ad1 n1 c1,.slice ae1 m1 d1]),(fun w v=>Dg w .u32 B32 v (Rat.den (q1))),(fun w v=>∃g,v= .pointer (some ⟨g,0,none⟩)∧w2.heap.size≤g∧Own w g [.bool false,.slice none 0 0])] [4] (by decide+kernel) (by decide+kernel) rfl rfl rfl ⟨(Mb.eq _),(fun _ _ _ h hb=>h.below hb),(Mb.eq _),(fun _ _ _ h hb=>h.below hb),(fun _ _ _ ⟨g,e,l,o⟩ hb=>⟨g,e,l,o.below hb⟩),trivial⟩ ⟨fun _ _ ⟨g,e,_,o⟩=>⟨g,e,o.lt⟩,trivial⟩ ⟨?_,?_,?_,?_,?_,trivial⟩ ?_
 ·intro a' w' hF' hb hd
  exact dv0 (r_load (hF'.at 2 rfl) (ld_all ty_Rat ((st.bk 1 rfl).below hb) rfl)) rfl rfl rfl
 ·intro a' w' hF' hb hd
  have e9:=sHe hd 0 9 rfl rfl rfl rfl
  exact dc0 (r_call Tryz.func87 en87.1 en87.2 (map1 e9)) (rnum_any _ (q1) _ (h1.below (below_to st.bel hb))) rfl rfl
 ·intro a' w' hF' hb hd
  exact dv0 (r_load (hF'.at 2 rfl) (ld_all ty_Rat ((st.bk 1 rfl).below hb) rfl)) rfl rfl rfl
 ·intro a' w' hF' hb hd
  have e11:=sHe hd 0 11 rfl rfl rfl rfl
  exact dc0 (r_call Tryz.func83 en83.1 en83.2 (map1 e11)) (rden_any _ (q1) _ (h1.below (below_to st.bel hb))) rfl rfl
 ·intro a' w' hF' hb hd
  exact da0 ty_Int rfl hb.size rfl
 intro a w3 hF bb hall hne
 have s0:=st
 replace st:=st.to bb
 obtain⟨vv4,e10,hh5⟩:=sS hall 1 10 rfl rfl
 replace st:=st.add hh5 (Wc.cl _)
 clear hh5
 obtain⟨vv6,e12,hh7⟩:=sS hall 3 12 rfl rfl
 replace st:=st.add hh7 (Dg.cl _)
 clear hh7
 obtain⟨_,e5,g5,rfl,ge5,o5⟩:=sS hall 4 5 rfl rfl
 replace st:=st.push o5.blk (Nat.le_trans s0.bel.size ge5) (s0.ne ge5)
 clear o5
 clear hall hne bb s0
 obtain⟨ad8,n8,c8,rfl,_⟩:=Wc.shape (st.f 1 rfl)
 replace hF:=hF.add e10
 clear e10
 obtain⟨ad9,n9,c9,rfl⟩:=Dg.form (st.f 0 rfl)
 replace hF:=hF.add e12
 clear e12
 replace hF:=hF.add e5
 clear e5
 refine S.sto st hF 0 rfl (hF.at 0 rfl) (hF.at 2 rfl) ty_Int rfl rfl rfl rfl fun w10 a st hF=>?_
 have hf11:=Wc.abs (st.f 1 rfl)
 replace st:=st.add hf11 (Dg.cl _)
 clear hf11
 refine E.opv hF (r_assign (hF.at 1 rfl)) rfl rfl rfl rfl fun a hF=>?_
 refine E.nil ?_
 refine wp_seq ?_
 refine wp_seq ?_
 refine E.seq ?_
 refine E.opv hF (r_move (hF.at 0 rfl)) rfl rfl rfl rfl fun a hF=>?_
 refine S.callx st hF (r_call Tryz.func88 en88.1 en88.2 (map1 (hF.at 0 rfl))) (calls_same (bits_any _ (Rat.den (q1)) _ (Dg.nt (st.f 1 rfl)))) rfl rfl rfl rfl fun w12 a st hF=>?_
 refine E.opv hF (r_bin (hF.at 0 rfl) ev_c eg_scalar (bi_int (ic_eql (c:=false) (eq0f (by omega))) (by simp))) rfl rfl rfl rfl fun a hF=>?_
 refine E.opv hF (r_move (hF.at 0 rfl)) rfl rfl rfl rfl fun a hF=>?_
 refine E.opvg hF (r_field (hF.at 5 rfl) (fa_Int_1 (p:=1) rfl)) (wanted_by rfl rfl (hF.at 0 rfl) rfl) rfl rfl rfl fun a hF=>?_
 refine E.opvg hF (r_load (hF.at 0 rfl) (ld_Nat (v:= .slice ad8 n8 c8) (st.b 0 rfl rfl) rfl)) (wanted_by rfl rfl (hF.at 1 rfl) rfl) rfl rfl rfl fun a hF=>?_
 refine E.opvg hF (r_move (hF.at 6 rfl)) (wanted_by rfl rfl (hF.at 2 rfl) rfl) rfl rfl rfl fun a hF=>?_
 refine S.callg st hF (wanted_by rfl rfl (hF.at 3 rfl) rfl) (r_call Tryz.func89 en89.1 en89.2 (map2 (hF.at 1 rfl) (hF.at 0 rfl))) (gcd_any _ _ (Int.natAbs (Rat.num (q1))) (Rat.den (q1)) _ (Dg.nt (st.f 0 rfl)) (Dg.nt (st.f 1 rfl))) (fun _ _ h=>h) Dg.cl rfl rfl rfl fun vv14 w13 a st hF=>?_
 obtain⟨ad16,n16,c16,rfl⟩:=Dg.form (st.f 0 rfl)
 refine S.callg st hF (wanted_by rfl rfl (hF.at 4 rfl) rfl) (r_call Tryz.func63 en63.1 en63.2 (map1 ev_c)) (of_any 1 _ (by decide)) (fun _ _ h=>h) Dg.cl rfl rfl rfl fun vv18 w17 a st hF=>?_
 obtain⟨ad20,n20,c20,rfl⟩:=Dg.form (st.f 0 rfl)
 refine S.callxg st hF (wanted_by rfl rfl (hF.at 5 rfl) rfl) (r_call Tryz.func85 en85.1 en85.2 (map2 (hF.at 1 rfl) (hF.at 0 rfl))) (calls_quiet (cmp_any _ _ (Nat.gcd (Int.natAbs (Rat.num (q1))) (Rat.den (q1))) 1 _ (Dg.nt (st.f 1 rfl)) (Dg.nt (st.f 0 rfl)))) rfl rfl rfl fun w21 a st hF=>?_
 refine E.opvg hF (r_bin (hF.at 0 rfl) ev_c eg_scalar (bi_int (ic_neq (c:=false) (ne0 (c3_eqx q1.reduced))) (by simp))) (wanted_by rfl rfl (hF.at 6 rfl) rfl) rfl rfl rfl fun a hF=>?_
 refine E.opv hF (r_pick_f (hF.at 7 rfl) (hF.at 0 rfl)) rfl rfl rfl rfl fun a hF=>?_
 refine E.nil ?_
 refine wp_cond_false (hF.at 0 rfl) ?_
 refine wp_skip ?_
 refine E.norm ?_
 refine wp_seq ?_
 refine E.drawn 9 mixed hF [25,26,27,28,29,30,31,32,7] [(fun _ v=>v= .pointer (some ⟨g5,0,none⟩)),(fun _ v=>v= .bool (decide (Rat.num (q1)<0))),(fun _ v=>v= .pointer (some ⟨g5,1,none⟩)),(fun _ v=>v= .slice ad8 n8 c8),(fun w v=>Dg w .i64 65536 v (Int.natAbs (Rat.num (q1)))),(fun w v=>Rz w v (sg ((decide (Rat.num (q1)<0))) (Int.natAbs (Rat.num (q1))))),(fun _ v=>v= .slice ad9 n9 c9),(fun w v=>Dg w .i64 65536 v (Rat.den (q1))),(fun w v=>∃g,v= .pointer (some ⟨g,0,none⟩)∧w21.heap.size≤g∧Own w g [.bool false,.slice none 0 0])] [8] (by decide+kernel) (by decide+kernel) rfl rfl rfl ⟨(Mb.eq _),(Mb.eq _),(Mb.eq _),(Mb.eq _),(fun _ _ _ h hb=>h.below hb),(fun _ _ _ h hb=>h.below hb),(Mb.eq _),(fun _ _ _ h hb=>h.below hb),(fun _ _ _ ⟨g,e,l,o⟩ hb=>⟨g,e,l,o.below hb⟩),trivial⟩ ⟨fun _ _ ⟨g,e,_,o⟩=>⟨g,e,o.lt⟩,trivial⟩ ⟨?_,?_,?_,?_,?_,?_,?_,?_,?_,trivial⟩ ?_
 ·intro a' w' hF' hb hd
  exact dv0 (r_field (hF'.at 13 rfl) (fa_Int_0 (p:=0) rfl)) rfl rfl rfl
 ·intro a' w' hF' hb hd
  have e25:=sHe hd 0 25 rfl rfl rfl rfl
  exact dv0 (r_load e25 (ld_bool (v:= .bool (decide (Rat.num (q1)<0))) ((st.b 0 rfl rfl).below hb) rfl)) rfl rfl rfl
 ·intro a' w' hF' hb hd
  exact dv0 (r_field (hF'.at 13 rfl) (fa_Int_1 (p:=1) rfl)) rfl rfl rfl
 ·intro a' w' hF' hb hd
  have e27:=sHe hd 0 27 rfl rfl rfl rfl
  exact dv0 (r_load e27 (ld_Nat (v:= .slice ad8 n8 c8) ((st.b 0 rfl rfl).below hb) rfl)) rfl rfl rfl
 ·intro a' w' hF' hb hd
  have e28:=sHe hd 0 28 rfl rfl rfl rfl
  exact dc0 (r_call Tryz.func91 en91.1 en91.2 (map1 e28)) (sfrom_dg _ (Int.natAbs (Rat.num (q1))) _ ((st.f 2 rfl).below hb) (Lim.dl (l1.1) _ (by omega))) rfl rfl
 ·intro a' w' hF' hb hd
  have e26:=sHe hd 0 26 rfl rfl rfl rfl
  obtain⟨v29_0,e29,h29_1⟩:=sH hd 1 29 rfl rfl rfl rfl
  exact dc0 (r_call Tryz.func90 en90.1 en90.2 (map2 e26 e29)) (rmake_any _ _ (Int.natAbs (Rat.num (q1))) _ h29_1) rfl rfl
 ·intro a' w' hF' hb hd
  exact dv0 (r_move (hF'.at 12 rfl)) rfl rfl rfl
 ·intro a' w' hF' hb hd
  have e31:=sHe hd 0 31 rfl rfl rfl rfl
  exact dc0 (r_call Tryz.func91 en91.1 en91.2 (map1 e31)) (sfrom_dg _ (Rat.den (q1)) _ ((st.f 3 rfl).below hb) (Lim.dl (l1.2) _ (by omega))) rfl rfl
 ·intro a' w' hF' hb hd
  exact da0 ty_RInt rfl hb.size rfl
 intro a w22 hF bb hall hne
 have s0:=st
 replace st:=st.to bb
 obtain⟨vv23,e30,hh24⟩:=sS hall 5 30 rfl rfl
 replace st:=st.add hh24 (Rz.cl _)
 clear hh24
 obtain⟨vv25,e32,hh26⟩:=sS hall 7 32 rfl rfl
 replace st:=st.add hh26 (Dg.cl _)
 clear hh26
 obtain⟨_,e7,g7,rfl,ge7,o7⟩:=sS hall 8 7 rfl rfl
 replace st:=st.push o7.blk (Nat.le_trans s0.bel.size ge7) (s0.ne ge7)
 clear o7
 clear hall hne bb s0
 obtain⟨b27,ad27,n27,c27,rfl⟩:=Rz.form (st.f 1 rfl)
 replace hF:=hF.add e30
 clear e30
 obtain⟨ad28,n28,c28,rfl⟩:=Dg.form (st.f 0 rfl)
 replace hF:=hF.add e32
 clear e32
 replace hF:=hF.add e7
 clear e7
 refine S.sto st hF 0 rfl (hF.at 0 rfl) (hF.at 2 rfl) ty_RInt rfl rfl rfl rfl fun w29 a st hF=>?_
 have hf30:=Rz.abs (st.f 1 rfl)
 replace st:=st.add hf30 (Dg.cl _)
 clear hf30
 refine E.opv hF (r_assign (hF.at 1 rfl)) rfl rfl rfl rfl fun a hF=>?_
 refine E.nil ?_
 refine wp_seq ?_
 refine wp_seq ?_
 refine E.drawn 12 mixed hF [33,34,35,36,37,38,39,40,41,42,43,44] [(fun _ v=>v= .agg #[.bool b27,.slice ad27 n27 c27]),(fun _ v=>v= .pointer (some ⟨g3,2,none⟩)),(fun _ v=>v= .slice ae2 m2 d2),(fun _ v=>v= .agg #[.bool false,.slice ae2 m2 d2]),(fun w v=>Rz w v ((sg ((decide (Rat.num (q1)<0))) (Int.natAbs (Rat.num (q1))))*(((D2:Nat):Int)))),(fun _ v=>v= .pointer (some ⟨g3,0,none⟩)),(fun _ v=>v= .agg #[.bool b2,.slice ad2 n2 c2]),(fun _ v=>v= .slice ad28 n28 c28),(fun _ v=>v= .agg #[.bool false,.slice ad28 n28 c28]),(fun w v=>Rz w v (z2*(((Rat.den (q1):Nat):Int)))),(fun _ v=>v= .int .i64 (ci ((sg ((decide (Rat.num (q1)<0))) (Int.natAbs (Rat.num (q1))))*(((D2:Nat):Int))) (z2*(((Rat.den (q1):Nat):Int))))),(fun _ v=>v= .bool false)] [] (by decide+kernel) (by decide+kernel) rfl rfl rfl ⟨(Mb.eq _),(Mb.eq _),(Mb.eq _),(Mb.eq _),(fun _ _ _ h hb=>h.below hb),(Mb.eq _),(Mb.eq _),(Mb.eq _),(Mb.eq _),(fun _ _ _ h hb=>h.below hb),(Mb.eq _),(Mb.eq _),trivial⟩ trivial ⟨?_,?_,?_,?_,?_,?_,?_,?_,?_,?_,?_,?_,trivial⟩ ?_
 ·intro a' w' hF' hb hd
  exact dv0 (r_load (hF'.at 1 rfl) (ld_all ty_RInt ((st.bk 0 rfl).below hb) rfl)) rfl rfl rfl
 ·intro a' w' hF' hb hd
  exact dv0 (r_field (hF'.at 21 rfl) (fa_RRat_1 (p:=2) rfl)) rfl rfl rfl
 ·intro a' w' hF' hb hd
  have e34:=sHe hd 0 34 rfl rfl rfl rfl
  exact dv0 (r_load e34 (ld_Num (v:= .slice ae2 m2 d2) ((st.b 2 rfl rfl).below hb) rfl)) rfl rfl rfl
 ·intro a' w' hF' hb hd
  have e35:=sHe hd 0 35 rfl rfl rfl rfl
  exact dv0 (r_build (pair1 e35) (bd_RInt_1 _ _ _ _)) rfl rfl rfl
 ·intro a' w' hF' hb hd
  have e33:=sHe hd 0 33 rfl rfl rfl rfl
  have e36:=sHe hd 1 36 rfl rfl rfl rfl
  exact dc0 (r_call Tryz.func79 en79.1 en79.2 (map2 e33 e36)) (rmul_any _ _ _ _ k1 k2 _ ((st.f 2 rfl).below hb) (Rz.nat (hd2.below (below_to st.bel hb))) (sg_lim _ (l1.1)) (lim_cast lD2) (by omega) (by omega)) rfl rfl
 ·intro a' w' hF' hb hd
  exact dv0 (r_field (hF'.at 21 rfl) (fa_RRat_0 (p:=0) rfl)) rfl rfl rfl
 ·intro a' w' hF' hb hd
  have e38:=sHe hd 0 38 rfl rfl rfl rfl
  exact dv0 (r_load e38 (ld_RInt (vs:=[.bool b2,.slice ad2 n2 c2]) ((st.b 2 rfl rfl).below hb) rfl rfl)) rfl rfl rfl
 ·intro a' w' hF' hb hd
  exact dv0 (r_move (hF'.at 0 rfl)) rfl rfl rfl
 ·intro a' w' hF' hb hd
  have e40:=sHe hd 0 40 rfl rfl rfl rfl
  exact dv0 (r_build (pair1 e40) (bd_RInt_1 _ _ _ _)) rfl rfl rfl
 ·intro a' w' hF' hb hd
  have e39:=sHe hd 0 39 rfl rfl rfl rfl
  have e41:=sHe hd 1 41 rfl rfl rfl rfl
  exact dc0 (r_call Tryz.func79 en79.1 en79.2 (map2 e39 e41)) (rmul_any _ _ _ _ k2 k1 _ (hn2.below (below_to st.bel hb)) (Rz.nat ((st.f 1 rfl).below hb)) lz2 (lim_cast (l1.2)) (by omega) (by omega)) rfl rfl
 ·intro a' w' hF' hb hd
  obtain⟨v37_0,e37,h37_1⟩:=sH hd 0 37 rfl rfl rfl rfl
  obtain⟨v42_0,e42,h42_1⟩:=sH hd 1 42 rfl rfl rfl rfl
  exact dcx0 (r_call Tryz.func92 en92.1 en92.2 (map2 e37 e42)) (rcmp_any3 _ _ _ _ (k1+k2) (k2+k1) _ h37_1 h42_1 (limz_mul (sg_lim _ (l1.1)) (lim_cast lD2)) (limz_mul lz2 (lim_cast (l1.2))) (by omega) (by omega)) (fun _=>rfl) rfl rfl
 ·intro a' w' hF' hb hd
  have e43:=sHe hd 0 43 rfl rfl rfl rfl
  exact dv0 (r_bin e43 ev_c eg_scalar (bi_int (ic_neq (c:=false) (ne0 (ci_same (by rw[sg_dec];exact HX.out)))) (by simp))) rfl rfl rfl
 intro a w31 hF bb hall hne
 replace st:=st.to bb
 have e44:=sSe hall 11 44 rfl rfl
 clear hall hne bb
 replace hF:=hF.add e44
 clear e44
 refine E.nil ?_
 refine wp_cond_false (hF.at 0 rfl) ?_
 refine wp_skip ?_
 refine E.norm ?_
 refine wp_seq ?_
 refine E.seq ?_
 refine E.opset (L':=[(4,.int .i64 0),(44,.bool false),(8,.slice ad28 n28 c28),(7,.pointer (some ⟨g7,0,none⟩)),(32,.slice ad28 n28 c28),(30,.agg #[.bool b27,.slice ad27 n27 c27]),(24,.bool false),(23,.bool false),(22,.int .i64 (c3 (Nat.gcd (Int.natAbs (Rat.num (q1))) (Rat.den (q1))) (1))),(21,.slice ad20 n20 c20),(20,.slice ad16 n16 c16),(19,.slice ad9 n9 c9),(18,.slice ad8 n8 c8),(17,.pointer (some ⟨g5,1,none⟩)),(16,.bool false),(15,.bool false),(14,.int .i64 (dl 2 (Rat.den (q1)):Nat)),(13,.slice ad9 n9 c9),(6,.slice ad9 n9 c9),(5,.pointer (some ⟨g5,0,none⟩)),(12,.slice ad9 n9 c9),(10,.agg #[.bool (decide (Rat.num (q1)<0)),.slice ad8 n8 c8]),(3,.pointer (some ⟨g3,0,none⟩)),(2,.pointer (some ⟨g2,0,none⟩)),(0,.agg #[.bool b1,.slice ad1 n1 c1,.slice ae1 m1 d1]),(1,.agg #[.bool b2,.slice ad2 n2 c2,.slice ae2 m2 d2])]) hF (r_assign ev_c) rfl rfl rfl rfl fun a hF=>?_
 refine E.nil ?_
 refine wp_ret ?_
 have bel:=st.bel
 refine bodyPost_ret (res_tmp Tryz.results51 (hF.at 0 rfl)) hF.dfr ?_
 exact⟨rfl,bel⟩
end
section
theorem rSame_true (v1 v2:Value) (q1 q2:Rat) (w:World) (h1:Rq w v1 q1) (h2:Rq w v2 q2) (h:q1=q2):Calls Tryz.prog 45 #[v1,v2] w (BoolPost w true):=by
 have:=rSame_any v1 v2 q1 q2 w h1 h2
 rw[decide_eq_true h] at this
 exact this
end
section
theorem qc_def (a b:Rat):qc a b=if a<b then -1 else if b<a then 1 else 0:=by
 unfold qc ci
 simp only [←Rat.lt_iff]
theorem sz_bd (z:Int): -1≤sz z∧sz z≤1:=by unfold sz;split <;> (try split) <;> omega
theorem sz_def (q:Rat):sz q.num=if q<0 then -1 else if 0<q then 1 else 0:=by
 have h1:q<0↔q.num<0:=by rw[Rat.lt_iff];simp
 have h2:0<q↔0<q.num:=by rw[Rat.lt_iff];simp
 simp only [h1,h2]
 unfold sz
 split
 ·rename_i e;rw[e];simp
 ·split
  ·rfl
  ·rw[if_pos (by omega)]
theorem small_mul {a b:Int} (ha: -1≤a∧a≤1) (hb: -1≤b∧b≤1): -9223372036854775808≤a*b∧a*b≤9223372036854775807:=by
 obtain⟨a1,a2⟩:=ha
 obtain⟨b1,b2⟩:=hb
 have h:a= -1∨a=0∨a=1:=by omega
 rcases h with rfl|rfl|rfl <;> constructor <;> omega
end
end
theorem limz_fdiv {x:Int} {a:Nat} (y:Int) (h:Lim x.natAbs a):Lim (x.fdiv y).natAbs (a+1):=by
 refine Nat.lt_of_le_of_lt (m:=x.natAbs+1) ?_ ?_
 ·rw[Int.fdiv_eq_ediv]
  have h1:(x/y).natAbs ≤x.natAbs:=Int.natAbs_ediv_le_natAbs x y
  split <;> omega
 ·have h1:B32^a+1≤B32^(a+1):=by
   rw[Nat.pow_succ]
   have h2:0<B32^a:=Nat.pow_pos (by decide)
   have h3:B32^a*2≤B32^a*B32:=Nat.mul_le_mul_left _ (by decide)
   omega
  unfold Lim at h
  omega
theorem tq (z y:Int) (h:y≠0):∃r,z=sg (decide (z<0) !=decide (y<0)) (z.natAbs/y.natAbs)*y+r∧r.natAbs<y.natAbs∧(0≤z→0≤r)∧(z≤0→r≤0):=by
 have h1:=Nat.div_add_mod z.natAbs y.natAbs
 have h2:=Nat.mod_lt z.natAbs (show 0<y.natAbs by omega)
 generalize z.natAbs/y.natAbs=q at*
 generalize z.natAbs%y.natAbs=r at*
 have h3:((y.natAbs*q:Nat):Int)=(y.natAbs:Int)*(q:Int):=by simp
 by_cases hz:z<0 <;> by_cases hy:y<0
 ·refine⟨-(r:Int),?_,by omega,by omega,by omega⟩
  rw[decide_eq_true hz,decide_eq_true hy]
  have e:(y.natAbs:Int)= -y:=by omega
  rw[e,Int.neg_mul] at h3
  show z=(q:Int)*y+_
  rw[Int.mul_comm];omega
 ·refine⟨-(r:Int),?_,by omega,by omega,by omega⟩
  rw[decide_eq_true hz,decide_eq_false hy]
  have e:(y.natAbs:Int)=y:=by omega
  rw[e] at h3
  show z= -(q:Int)*y+_
  rw[Int.neg_mul,Int.mul_comm];omega
 ·refine⟨(r:Int),?_,by omega,by omega,by omega⟩
  rw[decide_eq_false hz,decide_eq_true hy]
  have e:(y.natAbs:Int)= -y:=by omega
  rw[e,Int.neg_mul] at h3
  show z= -(q:Int)*y+_
  rw[Int.neg_mul,Int.mul_comm];omega
 ·refine⟨(r:Int),?_,by omega,by omega,by omega⟩
  rw[decide_eq_false hz,decide_eq_false hy]
  have e:(y.natAbs:Int)=y:=by omega
  rw[e] at h3
  show z=(q:Int)*y+_
  rw[Int.mul_comm];omega
theorem f_of {z y q r:Int} (h:y≠0) (e:z=q*y+r) (h1:0<y→0≤r∧r<y) (h2:y<0→r≤0∧y<r):q=Int.fdiv z y∧r=fr z y:=by
 unfold fr
 rw[if_neg h]
 rcases Int.lt_or_gt_of_ne h with h'|h'
 ·obtain⟨a,b⟩:=f_neg (a:=z) (b:=y) (q:=q) (r:=r) (by rw[e,Int.mul_comm]) (h2 h').1 (h2 h').2
  exact⟨a.symm,b.symm⟩
 ·obtain⟨a,b⟩:=f_pos (a:=z) (b:=y) (q:=q) (r:=r) (by rw[e,Int.mul_comm]) (h1 h').1 (h1 h').2
  exact⟨a.symm,b.symm⟩
theorem sz_lt {a b:Int}:sz a*sz b<0↔(a<0∧0<b)∨(0<a∧b<0):=by
 unfold sz
 split <;> split <;> (try split) <;> (try split) <;> omega
theorem dm_less {z y q:Int} (hq:q=sg (decide (z<0) !=decide (y<0)) (z.natAbs/y.natAbs)) (h:y≠0) (ht:sz (z+ -(q*y))*sz y<0):q+ -1=Int.fdiv z y∧z+ -((q+ -1)*y)=fr z y:=by
 obtain⟨r,e,h1,h2,h3⟩:=tq z y h
 rw[←hq] at e
 have er:z+ -(q*y)=r:=by omega
 rw[er,sz_lt] at ht
 have e2:(q+ -1)*y=q*y-y:=by rw[Int.add_mul];omega
 have:=f_of (z:=z) (y:=y) (q:=q+ -1) (r:=r+y) h (by rw[e2];omega) (by omega) (by omega)
 exact⟨this.1,by rw[e2,←this.2];omega⟩
theorem dm_same {z y q:Int} (hq:q=sg (decide (z<0) !=decide (y<0)) (z.natAbs/y.natAbs)) (h:y≠0) (ht:¬sz (z+ -(q*y))*sz y<0):q=Int.fdiv z y∧z+ -(q*y)=fr z y:=by
 obtain⟨r,e,h1,h2,h3⟩:=tq z y h
 rw[←hq] at e
 have er:z+ -(q*y)=r:=by omega
 rw[er,sz_lt] at ht
 rw[er]
 exact f_of h e (by omega) (by omega)
theorem Rz.cast {w:World} {v:Value} {z z':Int} (h:Rz w v z) (e:z=z'):Rz w v z':=by subst e;exact h
def RdPost (w:World) (z1 z2:Int) (e:Ending) (w':World):Prop:=∃v1 v2,e= .returned (.tuple #[v1,v2])∧Rz w' v1 (z1.fdiv z2)∧Rz w' v2 (fr z1 z2)∧Below w.heap.size w w'
end Go.Proofs.YtplngpfpcheofaaGreatDoor
