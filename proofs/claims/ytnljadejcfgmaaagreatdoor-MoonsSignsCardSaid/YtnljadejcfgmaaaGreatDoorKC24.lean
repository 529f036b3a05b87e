import Derived.Test.YtnljadejcfgmaaaGreatDoorKC18
namespace Go.Proofs.YtnljadejcfgmaaaGreatDoor
open Go.RowKit
set_option maxRecDepth 100000
set_option linter.unusedVariables false
set_option maxHeartbeats 8000000
theorem rDivMod_any (v1 v2:Value) (z1 z2:Int) (k j:Nat) (w:World) (h1:Rz w v1 z1) (h2:Rz w v2 z2) (l1:Lim z1.natAbs k) (l2:Lim z2.natAbs j) (hk:k≤5000) (hj:j≤5000):
 Calls Tryz.prog 170 #[v1,v2] w (RdPost w z1 z2):=by
 obtain⟨b1,ad1,n1,c1,rfl⟩:=h1.form
 have ha1:=h1.abs
 have hb1:=h1.neg
 obtain⟨b2,ad2,n2,c2,rfl⟩:=h2.form
 have ha2:=h2.abs
 have hb2:=h2.neg
 by_cases e2:z2=0
 ·have HE:=Lib.hid (show(0:Int)=Int.fdiv z1 z2∧0=fr z1 z2 by rw[e2];exact⟨(fdm_zero' z1).1.symm,(fdm_zero' z1).2.symm⟩)
  have hm2:n2=0:=Dg.len0 (by rw[e2] at ha2;exact ha2)
  clear hb1 hb2 e2
  have bel:Below w.heap.size w w:=Below.refl _ _
  refine E.enter (nt:=51) (L:=[(0,.agg #[.bool b1,.slice ad1 n1 c1]),(1,.agg #[.bool b2,.slice ad2 n2 c2])]) Tryz.func170 rfl rfl rfl (args_cons (i:=0) rfl (args_cons (i:=1) rfl args_nil)) ?_
  intro a hF
  refine wp_seq ?_
  refine E.seq ?_
  obtain⟨g2,w1,ge2,hr,bb,o2⟩:=own_box (P:=Tryz.prog) (w:=w) (cs:=[.bool b1,.slice ad1 n1 c1]) (v:= .agg #[.bool b1,.slice ad1 n1 c1]) 38 rfl (niB (niS ni0))
  replace ge2:w.heap.size≤g2:=by rw[←ge2];exact bel.size
  refine E.opv hF (r_box (hF.at 0 rfl) hr) rfl rfl rfl rfl fun a hF=>?_
  clear hr
  replace bel:=below_to bel bb
  clear bb
  obtain⟨g3,w2,ge3,hr,bb,o3⟩:=own_box (P:=Tryz.prog) (w:=w1) (cs:=[.bool b2,.slice ad2 n2 c2]) (v:= .agg #[.bool b2,.slice ad2 n2 c2]) 38 rfl (niB (niS ni0))
  have ne2_3:g2≠g3:=by rw[←ge3];exact o2.ne_new
  replace ge3:w.heap.size≤g3:=by rw[←ge3];exact bel.size
  refine E.opv hF (r_box (hF.at 2 rfl) hr) rfl rfl rfl rfl fun a hF=>?_
  clear hr
  replace o2:=o2.below bb
  replace bel:=below_to bel bb
  clear bb
  obtain⟨g4,w3,ge4,hr,bb,o4⟩:=own_alloc (P:=Tryz.prog) (w:=w2) (cs:=[.bool false,.slice none 0 0]) 38 ze_RInt rfl (niB (niS ni0))
  have ne2_4:g2≠g4:=by rw[←ge4];exact o2.ne_new
  have ne3_4:g3≠g4:=by rw[←ge4];exact o3.ne_new
  replace ge4:w.heap.size≤g4:=by rw[←ge4];exact bel.size
  refine E.opv hF (r_alloc hr) rfl rfl rfl rfl fun a hF=>?_
  clear hr
  replace o2:=o2.below bb
  replace o3:=o3.below bb
  replace bel:=below_to bel bb
  clear bb
  obtain⟨g5,w4,ge5,hr,bb,o5⟩:=own_alloc (P:=Tryz.prog) (w:=w3) (cs:=[.bool false,.slice none 0 0]) 38 ze_RInt rfl (niB (niS ni0))
  have ne2_5:g2≠g5:=by rw[←ge5];exact o2.ne_new
  have ne3_5:g3≠g5:=by rw[←ge5];exact o3.ne_new
  have ne4_5:g4≠g5:=by rw[←ge5];exact o4.ne_new
  replace ge5:w.heap.size≤g5:=by rw[←ge5];exact bel.size
  refine E.opv hF (r_alloc hr) rfl rfl rfl rfl fun a hF=>?_
  clear hr
  replace o2:=o2.below bb
  replace o3:=o3.below bb
  replace o4:=o4.below bb
  replace bel:=below_to bel bb
  clear bb
  refine E.nil ?_
  refine wp_seq ?_
  refine wp_seq ?_
  refine E.seq ?_
  refine E.opv hF (r_field (hF.at 2 rfl) (fa_RInt_1 (p:=1) rfl)) rfl rfl rfl rfl fun a hF=>?_
  refine E.opv hF (r_load (hF.at 0 rfl) (ld_Num (v:= .slice ad2 n2 c2) o3 rfl)) rfl rfl rfl rfl fun a hF=>?_
  refine E.opv hF (r_builtin (map1 (hF.at 0 rfl)) bl_num) rfl rfl rfl rfl fun a hF=>?_
  refine E.opv hF (r_bin (hF.at 0 rfl) ev_c eg_scalar (bi_int (ic_eql (c:=true) (eq0 (by rw[hm2];rfl))) (by simp))) rfl rfl rfl rfl fun a hF=>?_
  refine E.nil ?_
  refine wp_cond_true (hF.at 0 rfl) ?_
  refine wp_seq ?_
  refine E.seq ?_
  refine E.opv hF (r_build (by simp) (bd_RInt_ _)) rfl rfl rfl rfl fun a hF=>?_
  refine E.opv hF (r_build (by simp) (bd_RInt_ _)) rfl rfl rfl rfl fun a hF=>?_
  obtain⟨w5,hr,tu,on⟩:=st_RInt (vs:=[.bool false,.slice none 0 0]) o4 rfl rfl (ocB (ocS oc0)) (niB (niS ni0)) (o:=0) rfl
  have kp:=tu.keep o4
  refine E.st hF (r_store (hF.at 7 rfl) (hF.at 1 rfl) (hr _ rfl)) rfl rfl fun a hF=>?_
  clear hr
  replace o2:=tu.own o2 ne2_4
  replace o3:=tu.own o3 ne3_4
  replace o5:=tu.own o5 (Ne.symm ne4_5)
  replace bel:=tu.below bel ge4
  clear tu kp
  replace o4:=on
  clear on
  obtain⟨w6,hr,tu,on⟩:=st_RInt (vs:=[.bool false,.slice none 0 0]) o5 rfl rfl (ocB (ocS oc0)) (niB (niS ni0)) (o:=0) rfl
  have kp:=tu.keep o5
  refine E.st hF (r_store (hF.at 6 rfl) (hF.at 0 rfl) (hr _ rfl)) rfl rfl fun a hF=>?_
  clear hr
  replace o2:=tu.own o2 ne2_5
  replace o3:=tu.own o3 ne3_5
  replace o4:=tu.own o4 ne4_5
  replace bel:=tu.below bel ge5
  clear tu kp
  replace o5:=on
  clear on
  refine E.nil ?_
  refine wp_ret ?_
  refine bodyPost_ret (res_cell2 Tryz.results170 (hF.at 7 rfl) (ld_RInt (vs:=[.bool false,.slice none 0 0]) o4 rfl rfl) (hF.at 6 rfl) (ld_RInt (vs:=[.bool false,.slice none 0 0]) o5 rfl rfl)) hF.dfr ?_
  exact⟨_,_,rfl,(Rz.zero _).cast HE.out.1,(Rz.zero _).cast HE.out.2,bel⟩
 ·have hm2:=Dg.lenp (by decide) ha2 (by omega)
  have hQ:sg (b1 !=b2) (Int.natAbs z1/Int.natAbs z2)=sg (decide (z1<0) !=decide (z2<0)) (Int.natAbs z1/Int.natAbs z2):=by rw[hb1,hb2]
  by_cases HT:sz ((z1)+(-((sg (b1 !=b2) ((Int.natAbs (z1))/(Int.natAbs (z2))))*(z2))))*sz (z2)<0
  ·have HE:=Lib.hid (dm_less hQ e2 HT)
   clear hQ hb1 hb2 e2
   have bel:Below w.heap.size w w:=Below.refl _ _
   refine E.enter (nt:=51) (L:=[(0,.agg #[.bool b1,.slice ad1 n1 c1]),(1,.agg #[.bool b2,.slice ad2 n2 c2])]) Tryz.func170 rfl rfl rfl (args_cons (i:=0) rfl (args_cons (i:=1) rfl args_nil)) ?_
   intro a hF
   refine wp_seq ?_
   refine E.seq ?_
   obtain⟨g2,w1,ge2,hr,bb,o2⟩:=own_box (P:=Tryz.prog) (w:=w) (cs:=[.bool b1,.slice ad1 n1 c1]) (v:= .agg #[.bool b1,.slice ad1 n1 c1]) 38 rfl (niB (niS ni0))
   replace ge2:w.heap.size≤g2:=by rw[←ge2];exact bel.size
   refine E.opv hF (r_box (hF.at 0 rfl) hr) rfl rfl rfl rfl fun a hF=>?_
   clear hr
   replace bel:=below_to bel bb
   clear bb
   obtain⟨g3,w2,ge3,hr,bb,o3⟩:=own_box (P:=Tryz.prog) (w:=w1) (cs:=[.bool b2,.slice ad2 n2 c2]) (v:= .agg #[.bool b2,.slice ad2 n2 c2]) 38 rfl (niB (niS ni0))
   have ne2_3:g2≠g3:=by rw[←ge3];exact o2.ne_new
   replace ge3:w.heap.size≤g3:=by rw[←ge3];exact bel.size
   refine E.opv hF (r_box (hF.at 2 rfl) hr) rfl rfl rfl rfl fun a hF=>?_
   clear hr
   replace o2:=o2.below bb
   replace bel:=below_to bel bb
   clear bb
   obtain⟨g4,w3,ge4,hr,bb,o4⟩:=own_alloc (P:=Tryz.prog) (w:=w2) (cs:=[.bool false,.slice none 0 0]) 38 ze_RInt rfl (niB (niS ni0))
   have ne2_4:g2≠g4:=by rw[←ge4];exact o2.ne_new
   have ne3_4:g3≠g4:=by rw[←ge4];exact o3.ne_new
   replace ge4:w.heap.size≤g4:=by rw[←ge4];exact bel.size
   refine E.opv hF (r_alloc hr) rfl rfl rfl rfl fun a hF=>?_
   clear hr
   replace o2:=o2.below bb
   replace o3:=o3.below bb
   replace bel:=below_to bel bb
   clear bb
   obtain⟨g5,w4,ge5,hr,bb,o5⟩:=own_alloc (P:=Tryz.prog) (w:=w3) (cs:=[.bool false,.slice none 0 0]) 38 ze_RInt rfl (niB (niS ni0))
   have ne2_5:g2≠g5:=by rw[←ge5];exact o2.ne_new
   have ne3_5:g3≠g5:=by rw[←ge5];exact o3.ne_new
   have ne4_5:g4≠g5:=by rw[←ge5];exact o4.ne_new
   replace ge5:w.heap.size≤g5:=by rw[←ge5];exact bel.size
   refine E.opv hF (r_alloc hr) rfl rfl rfl rfl fun a hF=>?_
   clear hr
   replace o2:=o2.below bb
   replace o3:=o3.below bb
   replace o4:=o4.below bb
   replace bel:=below_to bel bb
   clear bb
   refine E.nil ?_
   refine wp_seq ?_
   refine wp_seq ?_
   refine E.seq ?_
   refine E.opv hF (r_field (hF.at 2 rfl) (fa_RInt_1 (p:=1) rfl)) rfl rfl rfl rfl fun a hF=>?_
   refine E.opv hF (r_load (hF.at 0 rfl) (ld_Num (v:= .slice ad2 n2 c2) o3 rfl)) rfl rfl rfl rfl fun a hF=>?_
   refine E.opv hF (r_builtin (map1 (hF.at 0 rfl)) bl_num) rfl rfl rfl rfl fun a hF=>?_
   refine E.opv hF (r_bin (hF.at 0 rfl) ev_c eg_scalar (bi_int (ic_eql (c:=false) (eq0f (by omega))) (by simp))) rfl rfl rfl rfl fun a hF=>?_
   refine E.nil ?_
   refine wp_cond_false (hF.at 0 rfl) ?_
   refine wp_skip ?_
   refine E.norm ?_
   refine wp_seq ?_
   refine E.seq ?_
   refine E.opv hF (r_field (hF.at 7 rfl) (fa_RInt_1 (p:=1) rfl)) rfl rfl rfl rfl fun a hF=>?_
   refine E.opv hF (r_load (hF.at 0 rfl) (ld_Num (v:= .slice ad1 n1 c1) o2 rfl)) rfl rfl rfl rfl fun a hF=>?_
   refine E.opv hF (r_field (hF.at 8 rfl) (fa_RInt_1 (p:=1) rfl)) rfl rfl rfl rfl fun a hF=>?_
   refine E.opv hF (r_load (hF.at 0 rfl) (ld_Num (v:= .slice ad2 n2 c2) o3 rfl)) rfl rfl rfl rfl fun a hF=>?_
   refine E.call hF (r_call Tryz.func215 en215.1 en215.2 (map2 (hF.at 2 rfl) (hF.at 0 rfl))) (sdivmod_any _ _ (Int.natAbs (z1)) (Int.natAbs (z2)) _ (ha1.below bel) (ha2.below bel) (Lim.dh l1 _ (by omega)) (Lim.dh l2 _ (by omega))) rfl rfl rfl rfl ?_
   rintro e w5 ⟨vv6,vv7,rfl,hh8,hh9,bb⟩
   refine⟨_,rfl,?_⟩
   intro a hF
   replace o2:=o2.below bb
   replace o3:=o3.below bb
   replace o4:=o4.below bb
   replace o5:=o5.below bb
   replace bel:=below_to bel bb
   clear bb
   obtain⟨ad10,n10,c10,rfl⟩:=Dg.form hh8
   obtain⟨ad11,n11,c11,rfl⟩:=Dg.form hh9
   refine E.opv hF (r_move (hF.at 0 rfl)) rfl rfl rfl rfl fun a hF=>?_
   refine E.opv hF (r_extract (v:= .slice ad10 n10 c10) (hF.at 0 rfl) rfl) rfl rfl rfl rfl fun a hF=>?_
   refine E.opv hF (r_extract (v:= .slice ad11 n11 c11) (hF.at 1 rfl) rfl) rfl rfl rfl rfl fun a hF=>?_
   refine E.opv hF (r_assign (hF.at 1 rfl)) rfl rfl rfl rfl fun a hF=>?_
   refine E.opv hF (r_assign (hF.at 1 rfl)) rfl rfl rfl rfl fun a hF=>?_
   refine E.nil ?_
   refine wp_seq ?_
   refine E.seq ?_
   refine E.opv hF (r_field (hF.at 17 rfl) (fa_RInt_0 (p:=0) rfl)) rfl rfl rfl rfl fun a hF=>?_
   refine E.opv hF (r_load (hF.at 0 rfl) (ld_bool (v:= .bool b1) o2 rfl)) rfl rfl rfl rfl fun a hF=>?_
   refine E.opv hF (r_field (hF.at 18 rfl) (fa_RInt_0 (p:=0) rfl)) rfl rfl rfl rfl fun a hF=>?_
   refine E.opv hF (r_load (hF.at 0 rfl) (ld_bool (v:= .bool b2) o3 rfl)) rfl rfl rfl rfl fun a hF=>?_
   refine E.opv hF (r_bin (hF.at 2 rfl) (hF.at 0 rfl) eg_bool (bb_neq (d:=(b1 !=b2)) rfl)) rfl rfl rfl rfl fun a hF=>?_
   refine E.opv hF (r_move (hF.at 6 rfl)) rfl rfl rfl rfl fun a hF=>?_
   refine E.call hF (r_call Tryz.func71 en71.1 en71.2 (map2 (hF.at 1 rfl) (hF.at 0 rfl))) (rmake_any _ _ ((Int.natAbs (z1))/(Int.natAbs (z2))) _ hh8) rfl rfl rfl rfl ?_
   rintro e w12 ⟨vv13,rfl,hh14,bb⟩
   refine⟨_,rfl,?_⟩
   intro a hF
   replace o2:=o2.below bb
   replace o3:=o3.below bb
   replace o4:=o4.below bb
   replace o5:=o5.below bb
   replace bel:=below_to bel bb
   clear bb
   obtain⟨b15,ad15,n15,c15,rfl⟩:=Rz.form hh14
   obtain⟨g8,w16,ge8,hr,bb,o8⟩:=own_alloc (P:=Tryz.prog) (w:=w12) (cs:=[.bool false,.slice none 0 0]) 38 ze_RInt rfl (niB (niS ni0))
   have ne2_8:g2≠g8:=by rw[←ge8];exact o2.ne_new
   have ne3_8:g3≠g8:=by rw[←ge8];exact o3.ne_new
   have ne4_8:g4≠g8:=by rw[←ge8];exact o4.ne_new
   have ne5_8:g5≠g8:=by rw[←ge8];exact o5.ne_new
   replace ge8:w.heap.size≤g8:=by rw[←ge8];exact bel.size
   refine E.opv hF (r_alloc hr) rfl rfl rfl rfl fun a hF=>?_
   clear hr
   replace hh14:=hh14.below bb
   replace o2:=o2.below bb
   replace o3:=o3.below bb
   replace o4:=o4.below bb
   replace o5:=o5.below bb
   replace bel:=below_to bel bb
   clear bb
   obtain⟨w17,hr,tu,on⟩:=st_RInt (vs:=[.bool b15,.slice ad15 n15 c15]) o8 rfl rfl (ocB (ocS oc0)) (niB (niS ni0)) (o:=0) rfl
   have kp:=tu.keep o8
   refine E.st hF (r_store (hF.at 0 rfl) (hF.at 1 rfl) (hr _ rfl)) rfl rfl fun a hF=>?_
   clear hr
   replace hh14:=hh14.keep kp
   replace o2:=tu.own o2 ne2_8
   replace o3:=tu.own o3 ne3_8
   replace o4:=tu.own o4 ne4_8
   replace o5:=tu.own o5 ne5_8
   replace bel:=tu.below bel ge8
   clear tu kp
   replace o8:=on
   clear on
   have hf18:=Rz.abs hh14
   refine E.nil ?_
   refine wp_seq ?_
   refine wp_seq ?_
   refine E.drawn 11 mixed hF [30,31,32,33,34,35,36,37,38,39,40] [(fun _ v=>v= .agg #[.bool b1,.slice ad1 n1 c1]),(fun _ v=>v= .agg #[.bool b15,.slice ad15 n15 c15]),(fun _ v=>v= .agg #[.bool b2,.slice ad2 n2 c2]),(fun w v=>Rz w v ((sg ((b1 !=b2)) ((Int.natAbs (z1))/(Int.natAbs (z2))))*z2)),(fun w v=>Rz w v (-((sg ((b1 !=b2)) ((Int.natAbs (z1))/(Int.natAbs (z2))))*z2))),(fun w v=>Rz w v (z1+(-((sg ((b1 !=b2)) ((Int.natAbs (z1))/(Int.natAbs (z2))))*z2)))),(fun _ v=>v= .int .i64 (sz (z1+(-((sg ((b1 !=b2)) ((Int.natAbs (z1))/(Int.natAbs (z2))))*z2))))),(fun _ v=>v= .agg #[.bool b2,.slice ad2 n2 c2]),(fun _ v=>v= .int .i64 (sz (z2))),(fun _ v=>v= .int .i64 ((sz (z1+(-((sg ((b1 !=b2)) ((Int.natAbs (z1))/(Int.natAbs (z2))))*z2))))*(sz (z2)))),(fun _ v=>v= .bool true)] [] (by decide+kernel) (by decide+kernel) rfl rfl rfl ⟨(Mb.eq _),(Mb.eq _),(Mb.eq _),(fun _ _ _ h hb=>h.below hb),(fun _ _ _ h hb=>h.below hb),(fun _ _ _ h hb=>h.below hb),(Mb.eq _),(Mb.eq _),(Mb.eq _),(Mb.eq _),(Mb.eq _),trivial⟩ trivial ⟨?_,?_,?_,?_,?_,?_,?_,?_,?_,?_,?_,trivial⟩ ?_
   ·intro a' w' hF' hb hd
    exact dv0 (r_load (hF'.at 25 rfl) (ld_RInt (vs:=[.bool b1,.slice ad1 n1 c1]) (o2.below hb) rfl rfl)) rfl rfl rfl
   ·intro a' w' hF' hb hd
    exact dv0 (r_load (hF'.at 0 rfl) (ld_RInt (vs:=[.bool b15,.slice ad15 n15 c15]) (o8.below hb) rfl rfl)) rfl rfl rfl
   ·intro a' w' hF' hb hd
    exact dv0 (r_load (hF'.at 24 rfl) (ld_RInt (vs:=[.bool b2,.slice ad2 n2 c2]) (o3.below hb) rfl rfl)) rfl rfl rfl
   ·intro a' w' hF' hb hd
    have e31:=sHe hd 0 31 rfl rfl rfl rfl
    have e32:=sHe hd 1 32 rfl rfl rfl rfl
    exact dc0 (r_call Tryz.func74 en74.1 en74.2 (map2 e31 e32)) (rmul_any _ _ _ _ k j _ (hh14.below hb) (h2.below (below_to bel hb)) (sg_lim _ (Lim.le l1 (Nat.div_le_self _ _))) l2 (by omega) (by omega)) rfl rfl
   ·intro a' w' hF' hb hd
    obtain⟨v33_0,e33,h33_1⟩:=sH hd 0 33 rfl rfl rfl rfl
    exact dc0 (r_call Tryz.func140 en140.1 en140.2 (map1 e33)) (ropp_any _ _ _ h33_1) rfl rfl
   ·intro a' w' hF' hb hd
    have e30:=sHe hd 0 30 rfl rfl rfl rfl
    obtain⟨v34_0,e34,h34_1⟩:=sH hd 1 34 rfl rfl rfl rfl
    exact dc0 (r_call Tryz.func126 en126.1 en126.2 (map2 e30 e34)) (radd_any3 _ _ _ _ k (k+j) _ (h1.below (below_to bel hb)) h34_1 l1 (limz_neg (limz_mul (sg_lim _ (Lim.le l1 (Nat.div_le_self _ _))) l2)) (by omega) (by omega)) rfl rfl
   ·intro a' w' hF' hb hd
    obtain⟨v35_0,e35,h35_1⟩:=sH hd 0 35 rfl rfl rfl rfl
    exact dcx0 (r_call Tryz.func139 en139.1 en139.2 (map1 e35)) (rsign_any _ _ _ h35_1) (fun _=>rfl) rfl rfl
   ·intro a' w' hF' hb hd
    exact dv0 (r_load (hF'.at 24 rfl) (ld_RInt (vs:=[.bool b2,.slice ad2 n2 c2]) (o3.below hb) rfl rfl)) rfl rfl rfl
   ·intro a' w' hF' hb hd
    have e37:=sHe hd 0 37 rfl rfl rfl rfl
    exact dcx0 (r_call Tryz.func139 en139.1 en139.2 (map1 e37)) (rsign_any _ _ _ (h2.below (below_to bel hb))) (fun _=>rfl) rfl rfl
   ·intro a' w' hF' hb hd
    have e36:=sHe hd 0 36 rfl rfl rfl rfl
    have e38:=sHe hd 1 38 rfl rfl rfl rfl
    exact dv0 (r_bin e36 e38 eg_scalar (ia_mul (small_mul (sz_bd _) (sz_bd _)).1 (small_mul (sz_bd _) (sz_bd _)).2)) rfl rfl rfl
   ·intro a' w' hF' hb hd
    have e39:=sHe hd 0 39 rfl rfl rfl rfl
    exact dv0 (r_bin e39 ev_c eg_scalar (bi_int (ic_lss (c:=true) (dec_t HT)) (by simp))) rfl rfl rfl
   intro a w19 hF bb hall hne
   have e40:=sSe hall 10 40 rfl rfl
   clear hall hne
   replace hf18:=hf18.below bb
   replace hh14:=hh14.below bb
   replace o2:=o2.below bb
   replace o3:=o3.below bb
   replace o4:=o4.below bb
   replace o5:=o5.below bb
   replace o8:=o8.below bb
   replace bel:=below_to bel bb
   clear bb
   replace hF:=hF.add e40
   clear e40
   refine E.nil ?_
   refine wp_cond_true (hF.at 0 rfl) ?_
   refine E.drawn 3 mixed hF [41,42,43] [(fun _ v=>v= .agg #[.bool b15,.slice ad15 n15 c15]),(fun w v=>Rz w v ((-1))),(fun w v=>Rz w v ((sg ((b1 !=b2)) ((Int.natAbs (z1))/(Int.natAbs (z2))))+((-1))))] [] (by decide+kernel) (by decide+kernel) rfl rfl rfl ⟨(Mb.eq _),(fun _ _ _ h hb=>h.below hb),(fun _ _ _ h hb=>h.below hb),trivial⟩ trivial ⟨?_,?_,?_,trivial⟩ ?_
   ·intro a' w' hF' hb hd
    exact dv0 (r_load (hF'.at 1 rfl) (ld_RInt (vs:=[.bool b15,.slice ad15 n15 c15]) (o8.below hb) rfl rfl)) rfl rfl rfl
   ·intro a' w' hF' hb hd
    exact dc0 (r_call Tryz.func105 en105.1 en105.2 (map1 ev_c)) (rOf_any ((-1)) _ (by decide) (by decide)) rfl rfl
   ·intro a' w' hF' hb hd
    have e41:=sHe hd 0 41 rfl rfl rfl rfl
    obtain⟨v42_0,e42,h42_1⟩:=sH hd 1 42 rfl rfl rfl rfl
    exact dc0 (r_call Tryz.func126 en126.1 en126.2 (map2 e41 e42)) (radd_any3 _ _ _ _ k 2 _ (hh14.below hb) h42_1 (sg_lim _ (Lim.le l1 (Nat.div_le_self _ _))) (limz_of (by decide)) (by omega) (by omega)) rfl rfl
   intro a w20 hF bb hall hne
   obtain⟨vv21,e43,hh22⟩:=sS hall 2 43 rfl rfl
   clear hall hne
   replace hf18:=hf18.below bb
   replace hh14:=hh14.below bb
   replace o2:=o2.below bb
   replace o3:=o3.below bb
   replace o4:=o4.below bb
   replace o5:=o5.below bb
   replace o8:=o8.below bb
   replace bel:=below_to bel bb
   clear bb
   obtain⟨b23,ad23,n23,c23,rfl⟩:=Rz.form hh22
   replace hF:=hF.add e43
   clear e43
   obtain⟨w24,hr,tu,on⟩:=st_RInt (vs:=[.bool b23,.slice ad23 n23 c23]) o8 rfl rfl (ocB (ocS oc0)) (niB (niS ni0)) (o:=0) rfl
   have kp:=tu.keep o8
   refine E.st hF (r_store (hF.at 2 rfl) (hF.at 0 rfl) (hr _ rfl)) rfl rfl fun a hF=>?_
   clear hr
   replace hf18:=hf18.keep kp
   replace hh14:=hh14.keep kp
   replace hh22:=hh22.keep kp
   replace o2:=tu.own o2 ne2_8
   replace o3:=tu.own o3 ne3_8
   replace o4:=tu.own o4 ne4_8
   replace o5:=tu.own o5 ne5_8
   replace bel:=tu.below bel ge8
   clear tu kp
   replace o8:=on
   clear on
   have hf25:=Rz.abs hh22
   refine E.nil ?_
   refine wp_seq ?_
   refine E.drawn 7 mixed hF [44,45,46,47,48,49,50] [(fun _ v=>v= .agg #[.bool b23,.slice ad23 n23 c23]),(fun _ v=>v= .agg #[.bool b1,.slice ad1 n1 c1]),(fun _ v=>v= .agg #[.bool b23,.slice ad23 n23 c23]),(fun _ v=>v= .agg #[.bool b2,.slice ad2 n2 c2]),(fun w v=>Rz w v (((sg ((b1 !=b2)) ((Int.natAbs (z1))/(Int.natAbs (z2))))+((-1)))*z2)),(fun w v=>Rz w v (-(((sg ((b1 !=b2)) ((Int.natAbs (z1))/(Int.natAbs (z2))))+((-1)))*z2))),(fun w v=>Rz w v (z1+(-(((sg ((b1 !=b2)) ((Int.natAbs (z1))/(Int.natAbs (z2))))+((-1)))*z2))))] [] (by decide+kernel) (by decide+kernel) rfl rfl rfl ⟨(Mb.eq _),(Mb.eq _),(Mb.eq _),(Mb.eq _),(fun _ _ _ h hb=>h.below hb),(fun _ _ _ h hb=>h.below hb),(fun _ _ _ h hb=>h.below hb),trivial⟩ trivial ⟨?_,?_,?_,?_,?_,?_,?_,trivial⟩ ?_
   ·intro a' w' hF' hb hd
    exact dv0 (r_load (hF'.at 2 rfl) (ld_RInt (vs:=[.bool b23,.slice ad23 n23 c23]) (o8.below hb) rfl rfl)) rfl rfl rfl
   ·intro a' w' hF' hb hd
    exact dv0 (r_load (hF'.at 27 rfl) (ld_RInt (vs:=[.bool b1,.slice ad1 n1 c1]) (o2.below hb) rfl rfl)) rfl rfl rfl
   ·intro a' w' hF' hb hd
    exact dv0 (r_load (hF'.at 2 rfl) (ld_RInt (vs:=[.bool b23,.slice ad23 n23 c23]) (o8.below hb) rfl rfl)) rfl rfl rfl
   ·intro a' w' hF' hb hd
    exact dv0 (r_load (hF'.at 26 rfl) (ld_RInt (vs:=[.bool b2,.slice ad2 n2 c2]) (o3.below hb) rfl rfl)) rfl rfl rfl
   ·intro a' w' hF' hb hd
    have e46:=sHe hd 0 46 rfl rfl rfl rfl
    have e47:=sHe hd 1 47 rfl rfl rfl rfl
    exact dc0 (r_call Tryz.func74 en74.1 en74.2 (map2 e46 e47)) (rmul_any _ _ _ _ ((max k 2)+1) j _ (hh22.below hb) (h2.below (below_to bel hb)) (limz_add (sg_lim _ (Lim.le l1 (Nat.div_le_self _ _))) (limz_of (by decide)) ((max k 2)+1) (by omega) (by omega)) l2 (by omega) (by omega)) rfl rfl
   ·intro a' w' hF' hb hd
    obtain⟨v48_0,e48,h48_1⟩:=sH hd 0 48 rfl rfl rfl rfl
    exact dc0 (r_call Tryz.func140 en140.1 en140.2 (map1 e48)) (ropp_any _ _ _ h48_1) rfl rfl
   ·intro a' w' hF' hb hd
    have e45:=sHe hd 0 45 rfl rfl rfl rfl
    obtain⟨v49_0,e49,h49_1⟩:=sH hd 1 49 rfl rfl rfl rfl
    exact dc0 (r_call Tryz.func126 en126.1 en126.2 (map2 e45 e49)) (radd_any3 _ _ _ _ k (((max k 2)+1)+j) _ (h1.below (below_to bel hb)) h49_1 l1 (limz_neg (limz_mul (limz_add (sg_lim _ (Lim.le l1 (Nat.div_le_self _ _))) (limz_of (by decide)) ((max k 2)+1) (by omega) (by omega)) l2)) (by omega) (by omega)) rfl rfl
   intro a w26 hF bb hall hne
   have e44:=sSe hall 0 44 rfl rfl
   obtain⟨vv27,e50,hh28⟩:=sS hall 6 50 rfl rfl
   clear hall hne
   replace hh22:=hh22.below bb
   replace hf25:=hf25.below bb
   replace o4:=o4.below bb
   replace o5:=o5.below bb
   replace bel:=below_to bel bb
   clear bb
   replace hF:=hF.add e44
   clear e44
   obtain⟨b29,ad29,n29,c29,rfl⟩:=Rz.form hh28
   replace hF:=hF.add e50
   clear e50
   obtain⟨w30,hr,tu,on⟩:=st_RInt (vs:=[.bool b23,.slice ad23 n23 c23]) o4 rfl rfl (ocB (ocS oc0)) (niB (niS ni0)) (o:=0) rfl
   have kp:=tu.keep o4
   refine E.st hF (r_store (hF.at 27 rfl) (hF.at 1 rfl) (hr _ rfl)) rfl rfl fun a hF=>?_
   clear hr
   replace hh28:=hh28.keep kp
   replace hh22:=hh22.keep kp
   replace hf25:=hf25.keep kp
   replace o5:=tu.own o5 (Ne.symm ne4_5)
   replace bel:=tu.below bel ge4
   clear tu kp
   replace o4:=on
   clear on
   obtain⟨w31,hr,tu,on⟩:=st_RInt (vs:=[.bool b29,.slice ad29 n29 c29]) o5 rfl rfl (ocB (ocS oc0)) (niB (niS ni0)) (o:=0) rfl
   have kp:=tu.keep o5
   refine E.st hF (r_store (hF.at 26 rfl) (hF.at 0 rfl) (hr _ rfl)) rfl rfl fun a hF=>?_
   clear hr
   replace hf25:=hf25.keep kp
   replace hh22:=hh22.keep kp
   replace hh28:=hh28.keep kp
   replace o4:=tu.own o4 ne4_5
   replace bel:=tu.below bel ge5
   clear tu kp
   replace o5:=on
   clear on
   have hf32:=Rz.abs hh28
   refine E.nil ?_
   refine wp_ret ?_
   refine bodyPost_ret (res_cell2 Tryz.results170 (hF.at 27 rfl) (ld_RInt (vs:=[.bool b23,.slice ad23 n23 c23]) o4 rfl rfl) (hF.at 26 rfl) (ld_RInt (vs:=[.bool b29,.slice ad29 n29 c29]) o5 rfl rfl)) hF.dfr ?_
   exact⟨_,_,rfl,hh22.cast HE.out.1,hh28.cast HE.out.2,bel⟩
  ·have HE:=Lib.hid (dm_same hQ e2 HT)
   clear hQ hb1 hb2 e2
   have bel:Below w.heap.size w w:=Below.refl _ _
   refine E.enter (nt:=51) (L:=[(0,.agg #[.bool b1,.slice ad1 n1 c1]),(1,.agg #[.bool b2,.slice ad2 n2 c2])]) Tryz.func170 rfl rfl rfl (args_cons (i:=0) rfl (args_cons (i:=1) rfl args_nil)) ?_
   intro a hF
   refine wp_seq ?_
   refine E.seq ?_
   obtain⟨g2,w1,ge2,hr,bb,o2⟩:=own_box (P:=Tryz.prog) (w:=w) (cs:=[.bool b1,.slice ad1 n1 c1]) (v:= .agg #[.bool b1,.slice ad1 n1 c1]) 38 rfl (niB (niS ni0))
   replace ge2:w.heap.size≤g2:=by rw[←ge2];exact bel.size
   refine E.opv hF (r_box (hF.at 0 rfl) hr) rfl rfl rfl rfl fun a hF=>?_
   clear hr
   replace bel:=below_to bel bb
   clear bb
   obtain⟨g3,w2,ge3,hr,bb,o3⟩:=own_box (P:=Tryz.prog) (w:=w1) (cs:=[.bool b2,.slice ad2 n2 c2]) (v:= .agg #[.bool b2,.slice ad2 n2 c2]) 38 rfl (niB (niS ni0))
   have ne2_3:g2≠g3:=by rw[←ge3];exact o2.ne_new
   replace ge3:w.heap.size≤g3:=by rw[←ge3];exact bel.size
   refine E.opv hF (r_box (hF.at 2 rfl) hr) rfl rfl rfl rfl fun a hF=>?_
   clear hr
   replace o2:=o2.below bb
   replace bel:=below_to bel bb
   clear bb
   obtain⟨g4,w3,ge4,hr,bb,o4⟩:=own_alloc (P:=Tryz.prog) (w:=w2) (cs:=[.bool false,.slice none 0 0]) 38 ze_RInt rfl (niB (niS ni0))
   have ne2_4:g2≠g4:=by rw[←ge4];exact o2.ne_new
   have ne3_4:g3≠g4:=by rw[←ge4];exact o3.ne_new
   replace ge4:w.heap.size≤g4:=by rw[←ge4];exact bel.size
   refine E.opv hF (r_alloc hr) rfl rfl rfl rfl fun a hF=>?_
   clear hr
   replace o2:=o2.below bb
   replace o3:=o3.below bb
   replace bel:=below_to bel bb
   clear bb
   obtain⟨g5,w4,ge5,hr,bb,o5⟩:=own_alloc (P:=Tryz.prog) (w:=w3) (cs:=[.bool false,.slice none 0 0]) 38 ze_RInt rfl (niB (niS ni0))
   have ne2_5:g2≠g5:=by rw[←ge5];exact o2.ne_new
   have ne3_5:g3≠g5:=by rw[←ge5];exact o3.ne_new
   have ne4_5:g4≠g5:=by rw[←ge5];exact o4.ne_new
   replace ge5:w.heap.size≤g5:=by rw[←ge5];exact bel.size
   refine E.opv hF (r_alloc hr) rfl rfl rfl rfl fun a hF=>?_
   clear hr
   replace o2:=o2.below bb
   replace o3:=o3.below bb
   replace o4:=o4.below bb
   replace bel:=below_to bel bb
   clear bb
   refine E.nil ?_
   refine wp_seq ?_
   refine wp_seq ?_
   refine E.seq ?_
   refine E.opv hF (r_field (hF.at 2 rfl) (fa_RInt_1 (p:=1) rfl)) rfl rfl rfl rfl fun a hF=>?_
   refine E.opv hF (r_load (hF.at 0 rfl) (ld_Num (v:= .slice ad2 n2 c2) o3 rfl)) rfl rfl rfl rfl fun a hF=>?_
   refine E.opv hF (r_builtin (map1 (hF.at 0 rfl)) bl_num) rfl rfl rfl rfl fun a hF=>?_
   refine E.opv hF (r_bin (hF.at 0 rfl) ev_c eg_scalar (bi_int (ic_eql (c:=false) (eq0f (by omega))) (by simp))) rfl rfl rfl rfl fun a hF=>?_
   refine E.nil ?_
   refine wp_cond_false (hF.at 0 rfl) ?_
   refine wp_skip ?_
   refine E.norm ?_
   refine wp_seq ?_
   refine E.seq ?_
   refine E.opv hF (r_field (hF.at 7 rfl) (fa_RInt_1 (p:=1) rfl)) rfl rfl rfl rfl fun a hF=>?_
   refine E.opv hF (r_load (hF.at 0 rfl) (ld_Num (v:= .slice ad1 n1 c1) o2 rfl)) rfl rfl rfl rfl fun a hF=>?_
   refine E.opv hF (r_field (hF.at 8 rfl) (fa_RInt_1 (p:=1) rfl)) rfl rfl rfl rfl fun a hF=>?_
   refine E.opv hF (r_load (hF.at 0 rfl) (ld_Num (v:= .slice ad2 n2 c2) o3 rfl)) rfl rfl rfl rfl fun a hF=>?_
   refine E.call hF (r_call Tryz.func215 en215.1 en215.2 (map2 (hF.at 2 rfl) (hF.at 0 rfl))) (sdivmod_any _ _ (Int.natAbs (z1)) (Int.natAbs (z2)) _ (ha1.below bel) (ha2.below bel) (Lim.dh l1 _ (by omega)) (Lim.dh l2 _ (by omega))) rfl rfl rfl rfl ?_
   rintro e w5 ⟨vv6,vv7,rfl,hh8,hh9,bb⟩
   refine⟨_,rfl,?_⟩
   intro a hF
   replace o2:=o2.below bb
   replace o3:=o3.below bb
   replace o4:=o4.below bb
   replace o5:=o5.below bb
   replace bel:=below_to bel bb
   clear bb
   obtain⟨ad10,n10,c10,rfl⟩:=Dg.form hh8
   obtain⟨ad11,n11,c11,rfl⟩:=Dg.form hh9
   refine E.opv hF (r_move (hF.at 0 rfl)) rfl rfl rfl rfl fun a hF=>?_
   refine E.opv hF (r_extract (v:= .slice ad10 n10 c10) (hF.at 0 rfl) rfl) rfl rfl rfl rfl fun a hF=>?_
   refine E.opv hF (r_extract (v:= .slice ad11 n11 c11) (hF.at 1 rfl) rfl) rfl rfl rfl rfl fun a hF=>?_
   refine E.opv hF (r_assign (hF.at 1 rfl)) rfl rfl rfl rfl fun a hF=>?_
   refine E.opv hF (r_assign (hF.at 1 rfl)) rfl rfl rfl rfl fun a hF=>?_
   refine E.nil ?_
   refine wp_seq ?_
   refine E.seq ?_
   refine E.opv hF (r_field (hF.at 17 rfl) (fa_RInt_0 (p:=0) rfl)) rfl rfl rfl rfl fun a hF=>?_
   refine E.opv hF (r_load (hF.at 0 rfl) (ld_bool (v:= .bool b1) o2 rfl)) rfl rfl rfl rfl fun a hF=>?_
   refine E.opv hF (r_field (hF.at 18 rfl) (fa_RInt_0 (p:=0) rfl)) rfl rfl rfl rfl fun a hF=>?_
   refine E.opv hF (r_load (hF.at 0 rfl) (ld_bool (v:= .bool b2) o3 rfl)) rfl rfl rfl rfl fun a hF=>?_
   refine E.opv hF (r_bin (hF.at 2 rfl) (hF.at 0 rfl) eg_bool (bb_neq (d:=(b1 !=b2)) rfl)) rfl rfl rfl rfl fun a hF=>?_
   refine E.opv hF (r_move (hF.at 6 rfl)) rfl rfl rfl rfl fun a hF=>?_
   refine E.call hF (r_call Tryz.func71 en71.1 en71.2 (map2 (hF.at 1 rfl) (hF.at 0 rfl))) (rmake_any _ _ ((Int.natAbs (z1))/(Int.natAbs (z2))) _ hh8) rfl rfl rfl rfl ?_
   rintro e w12 ⟨vv13,rfl,hh14,bb⟩
   refine⟨_,rfl,?_⟩
   intro a hF
   replace o2:=o2.below bb
   replace o3:=o3.below bb
   replace o4:=o4.below bb
   replace o5:=o5.below bb
   replace bel:=below_to bel bb
   clear bb
   obtain⟨b15,ad15,n15,c15,rfl⟩:=Rz.form hh14
   obtain⟨g8,w16,ge8,hr,bb,o8⟩:=own_alloc (P:=Tryz.prog) (w:=w12) (cs:=[.bool false,.slice none 0 0]) 38 ze_RInt rfl (niB (niS ni0))
   have ne2_8:g2≠g8:=by rw[←ge8];exact o2.ne_new
   have ne3_8:g3≠g8:=by rw[←ge8];exact o3.ne_new
   have ne4_8:g4≠g8:=by rw[←ge8];exact o4.ne_new
   have ne5_8:g5≠g8:=by rw[←ge8];exact o5.ne_new
   replace ge8:w.heap.size≤g8:=by rw[←ge8];exact bel.size
   refine E.opv hF (r_alloc hr) rfl rfl rfl rfl fun a hF=>?_
   clear hr
   replace hh14:=hh14.below bb
   replace o2:=o2.below bb
   replace o3:=o3.below bb
   replace o4:=o4.below bb
   replace o5:=o5.below bb
   replace bel:=below_to bel bb
   clear bb
   obtain⟨w17,hr,tu,on⟩:=st_RInt (vs:=[.bool b15,.slice ad15 n15 c15]) o8 rfl rfl (ocB (ocS oc0)) (niB (niS ni0)) (o:=0) rfl
   have kp:=tu.keep o8
   refine E.st hF (r_store (hF.at 0 rfl) (hF.at 1 rfl) (hr _ rfl)) rfl rfl fun a hF=>?_
   clear hr
   replace hh14:=hh14.keep kp
   replace o2:=tu.own o2 ne2_8
   replace o3:=tu.own o3 ne3_8
   replace o4:=tu.own o4 ne4_8
   replace o5:=tu.own o5 ne5_8
   replace bel:=tu.below bel ge8
   clear tu kp
   replace o8:=on
   clear on
   have hf18:=Rz.abs hh14
   refine E.nil ?_
   refine wp_seq ?_
   refine wp_seq ?_
   refine E.drawn 11 mixed hF [30,31,32,33,34,35,36,37,38,39,40] [(fun _ v=>v= .agg #[.bool b1,.slice ad1 n1 c1]),(fun _ v=>v= .agg #[.bool b15,.slice ad15 n15 c15]),(fun _ v=>v= .agg #[.bool b2,.slice ad2 n2 c2]),(fun w v=>Rz w v ((sg ((b1 !=b2)) ((Int.natAbs (z1))/(Int.natAbs (z2))))*z2)),(fun w v=>Rz w v (-((sg ((b1 !=b2)) ((Int.natAbs (z1))/(Int.natAbs (z2))))*z2))),(fun w v=>Rz w v (z1+(-((sg ((b1 !=b2)) ((Int.natAbs (z1))/(Int.natAbs (z2))))*z2)))),(fun _ v=>v= .int .i64 (sz (z1+(-((sg ((b1 !=b2)) ((Int.natAbs (z1))/(Int.natAbs (z2))))*z2))))),(fun _ v=>v= .agg #[.bool b2,.slice ad2 n2 c2]),(fun _ v=>v= .int .i64 (sz (z2))),(fun _ v=>v= .int .i64 ((sz (z1+(-((sg ((b1 !=b2)) ((Int.natAbs (z1))/(Int.natAbs (z2))))*z2))))*(sz (z2)))),(fun _ v=>v= .bool false)] [] (by decide+kernel) (by decide+kernel) rfl rfl rfl ⟨(Mb.eq _),(Mb.eq _),(Mb.eq _),(fun _ _ _ h hb=>h.below hb),(fun _ _ _ h hb=>h.below hb),(fun _ _ _ h hb=>h.below hb),(Mb.eq _),(Mb.eq _),(Mb.eq _),(Mb.eq _),(Mb.eq _),trivial⟩ trivial ⟨?_,?_,?_,?_,?_,?_,?_,?_,?_,?_,?_,trivial⟩ ?_
   ·intro a' w' hF' hb hd
    exact dv0 (r_load (hF'.at 25 rfl) (ld_RInt (vs:=[.bool b1,.slice ad1 n1 c1]) (o2.below hb) rfl rfl)) rfl rfl rfl
   ·intro a' w' hF' hb hd
    exact dv0 (r_load (hF'.at 0 rfl) (ld_RInt (vs:=[.bool b15,.slice ad15 n15 c15]) (o8.below hb) rfl rfl)) rfl rfl rfl
   ·intro a' w' hF' hb hd
    exact dv0 (r_load (hF'.at 24 rfl) (ld_RInt (vs:=[.bool b2,.slice ad2 n2 c2]) (o3.below hb) rfl rfl)) rfl rfl rfl
   ·intro a' w' hF' hb hd
    have e31:=sHe hd 0 31 rfl rfl rfl rfl
    have e32:=sHe hd 1 32 rfl rfl rfl rfl
    exact dc0 (r_call Tryz.func74 en74.1 en74.2 (map2 e31 e32)) (rmul_any _ _ _ _ k j _ (hh14.below hb) (h2.below (below_to bel hb)) (sg_lim _ (Lim.le l1 (Nat.div_le_self _ _))) l2 (by omega) (by omega)) rfl rfl
   ·intro a' w' hF' hb hd
    obtain⟨v33_0,e33,h33_1⟩:=sH hd 0 33 rfl rfl rfl rfl
    exact dc0 (r_call Tryz.func140 en140.1 en140.2 (map1 e33)) (ropp_any _ _ _ h33_1) rfl rfl
   ·intro a' w' hF' hb hd
    have e30:=sHe hd 0 30 rfl rfl rfl rfl
    obtain⟨v34_0,e34,h34_1⟩:=sH hd 1 34 rfl rfl rfl rfl
    exact dc0 (r_call Tryz.func126 en126.1 en126.2 (map2 e30 e34)) (radd_any3 _ _ _ _ k (k+j) _ (h1.below (below_to bel hb)) h34_1 l1 (limz_neg (limz_mul (sg_lim _ (Lim.le l1 (Nat.div_le_self _ _))) l2)) (by omega) (by omega)) rfl rfl
   ·intro a' w' hF' hb hd
    obtain⟨v35_0,e35,h35_1⟩:=sH hd 0 35 rfl rfl rfl rfl
    exact dcx0 (r_call Tryz.func139 en139.1 en139.2 (map1 e35)) (rsign_any _ _ _ h35_1) (fun _=>rfl) rfl rfl
   ·intro a' w' hF' hb hd
    exact dv0 (r_load (hF'.at 24 rfl) (ld_RInt (vs:=[.bool b2,.slice ad2 n2 c2]) (o3.below hb) rfl rfl)) rfl rfl rfl
   ·intro a' w' hF' hb hd
    have e37:=sHe hd 0 37 rfl rfl rfl rfl
    exact dcx0 (r_call Tryz.func139 en139.1 en139.2 (map1 e37)) (rsign_any _ _ _ (h2.below (below_to bel hb))) (fun _=>rfl) rfl rfl
   ·intro a' w' hF' hb hd
    have e36:=sHe hd 0 36 rfl rfl rfl rfl
    have e38:=sHe hd 1 38 rfl rfl rfl rfl
    exact dv0 (r_bin e36 e38 eg_scalar (ia_mul (small_mul (sz_bd _) (sz_bd _)).1 (small_mul (sz_bd _) (sz_bd _)).2)) rfl rfl rfl
   ·intro a' w' hF' hb hd
    have e39:=sHe hd 0 39 rfl rfl rfl rfl
    exact dv0 (r_bin e39 ev_c eg_scalar (bi_int (ic_lss (c:=false) (dec_f HT)) (by simp))) rfl rfl rfl
   intro a w19 hF bb hall hne
   have e40:=sSe hall 10 40 rfl rfl
   clear hall hne
   replace hf18:=hf18.below bb
   replace hh14:=hh14.below bb
   replace o2:=o2.below bb
   replace o3:=o3.below bb
   replace o4:=o4.below bb
   replace o5:=o5.below bb
   replace o8:=o8.below bb
   replace bel:=below_to bel bb
   clear bb
   replace hF:=hF.add e40
   clear e40
   refine E.nil ?_
   refine wp_cond_false (hF.at 0 rfl) ?_
   refine wp_skip ?_
   refine E.norm ?_
   refine wp_seq ?_
   refine E.drawn 7 mixed hF [44,45,46,47,48,49,50] [(fun _ v=>v= .agg #[.bool b15,.slice ad15 n15 c15]),(fun _ v=>v= .agg #[.bool b1,.slice ad1 n1 c1]),(fun _ v=>v= .agg #[.bool b15,.slice ad15 n15 c15]),(fun _ v=>v= .agg #[.bool b2,.slice ad2 n2 c2]),(fun w v=>Rz w v ((sg ((b1 !=b2)) ((Int.natAbs (z1))/(Int.natAbs (z2))))*z2)),(fun w v=>Rz w v (-((sg ((b1 !=b2)) ((Int.natAbs (z1))/(Int.natAbs (z2))))*z2))),(fun w v=>Rz w v (z1+(-((sg ((b1 !=b2)) ((Int.natAbs (z1))/(Int.natAbs (z2))))*z2))))] [] (by decide+kernel) (by decide+kernel) rfl rfl rfl ⟨(Mb.eq _),(Mb.eq _),(Mb.eq _),(Mb.eq _),(fun _ _ _ h hb=>h.below hb),(fun _ _ _ h hb=>h.below hb),(fun _ _ _ h hb=>h.below hb),trivial⟩ trivial ⟨?_,?_,?_,?_,?_,?_,?_,trivial⟩ ?_
   ·intro a' w' hF' hb hd
    exact dv0 (r_load (hF'.at 1 rfl) (ld_RInt (vs:=[.bool b15,.slice ad15 n15 c15]) (o8.below hb) rfl rfl)) rfl rfl rfl
   ·intro a' w' hF' hb hd
    exact dv0 (r_load (hF'.at 26 rfl) (ld_RInt (vs:=[.bool b1,.slice ad1 n1 c1]) (o2.below hb) rfl rfl)) rfl rfl rfl
   ·intro a' w' hF' hb hd
    exact dv0 (r_load (hF'.at 1 rfl) (ld_RInt (vs:=[.bool b15,.slice ad15 n15 c15]) (o8.below hb) rfl rfl)) rfl rfl rfl
   ·intro a' w' hF' hb hd
    exact dv0 (r_load (hF'.at 25 rfl) (ld_RInt (vs:=[.bool b2,.slice ad2 n2 c2]) (o3.below hb) rfl rfl)) rfl rfl rfl
   ·intro a' w' hF' hb hd
    have e46:=sHe hd 0 46 rfl rfl rfl rfl
    have e47:=sHe hd 1 47 rfl rfl rfl rfl
    exact dc0 (r_call Tryz.func74 en74.1 en74.2 (map2 e46 e47)) (rmul_any _ _ _ _ k j _ (hh14.below hb) (h2.below (below_to bel hb)) (sg_lim _ (Lim.le l1 (Nat.div_le_self _ _))) l2 (by omega) (by omega)) rfl rfl
   ·intro a' w' hF' hb hd
    obtain⟨v48_0,e48,h48_1⟩:=sH hd 0 48 rfl rfl rfl rfl
    exact dc0 (r_call Tryz.func140 en140.1 en140.2 (map1 e48)) (ropp_any _ _ _ h48_1) rfl rfl
   ·intro a' w' hF' hb hd
    have e45:=sHe hd 0 45 rfl rfl rfl rfl
    obtain⟨v49_0,e49,h49_1⟩:=sH hd 1 49 rfl rfl rfl rfl
    exact dc0 (r_call Tryz.func126 en126.1 en126.2 (map2 e45 e49)) (radd_any3 _ _ _ _ k (k+j) _ (h1.below (below_to bel hb)) h49_1 l1 (limz_neg (limz_mul (sg_lim _ (Lim.le l1 (Nat.div_le_self _ _))) l2)) (by omega) (by omega)) rfl rfl
   intro a w20 hF bb hall hne
   have e44:=sSe hall 0 44 rfl rfl
   obtain⟨vv21,e50,hh22⟩:=sS hall 6 50 rfl rfl
   clear hall hne
   replace hh14:=hh14.below bb
   replace hf18:=hf18.below bb
   replace o4:=o4.below bb
   replace o5:=o5.below bb
   replace bel:=below_to bel bb
   clear bb
   replace hF:=hF.add e44
   clear e44
   obtain⟨b23,ad23,n23,c23,rfl⟩:=Rz.form hh22
   replace hF:=hF.add e50
   clear e50
   obtain⟨w24,hr,tu,on⟩:=st_RInt (vs:=[.bool b15,.slice ad15 n15 c15]) o4 rfl rfl (ocB (ocS oc0)) (niB (niS ni0)) (o:=0) rfl
   have kp:=tu.keep o4
   refine E.st hF (r_store (hF.at 26 rfl) (hF.at 1 rfl) (hr _ rfl)) rfl rfl fun a hF=>?_
   clear hr
   replace hh22:=hh22.keep kp
   replace hh14:=hh14.keep kp
   replace hf18:=hf18.keep kp
   replace o5:=tu.own o5 (Ne.symm ne4_5)
   replace bel:=tu.below bel ge4
   clear tu kp
   replace o4:=on
   clear on
   obtain⟨w25,hr,tu,on⟩:=st_RInt (vs:=[.bool b23,.slice ad23 n23 c23]) o5 rfl rfl (ocB (ocS oc0)) (niB (niS ni0)) (o:=0) rfl
   have kp:=tu.keep o5
   refine E.st hF (r_store (hF.at 25 rfl) (hF.at 0 rfl) (hr _ rfl)) rfl rfl fun a hF=>?_
   clear hr
   replace hf18:=hf18.keep kp
   replace hh14:=hh14.keep kp
   replace hh22:=hh22.keep kp
   replace o4:=tu.own o4 ne4_5
   replace bel:=tu.below bel ge5
   clear tu kp
   replace o5:=on
   clear on
   have hf26:=Rz.abs hh22
   refine E.nil ?_
   refine wp_ret ?_
   refine bodyPost_ret (res_cell2 Tryz.results170 (hF.at 26 rfl) (ld_RInt (vs:=[.bool b15,.slice ad15 n15 c15]) o4 rfl rfl) (hF.at 25 rfl) (ld_RInt (vs:=[.bool b23,.slice ad23 n23 c23]) o5 rfl rfl)) hF.dfr ?_
   exact⟨_,_,rfl,hh14.cast HE.out.1,hh22.cast HE.out.2,bel⟩
end Go.Proofs.YtnljadejcfgmaaaGreatDoor
