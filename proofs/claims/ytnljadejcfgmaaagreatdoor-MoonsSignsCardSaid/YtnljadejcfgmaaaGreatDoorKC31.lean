import Derived.Test.YtnljadejcfgmaaaGreatDoorKC29
namespace Go.Proofs.YtnljadejcfgmaaaGreatDoor
open Go.RowKit
set_option maxRecDepth 100000
set_option linter.unusedVariables false
set_option maxHeartbeats 8000000
theorem one_div2 (n:Int):((n:Int):Rat)/((1:Int):Rat)=((n:Int):Rat):=of_one n
theorem dOf1b_any (n:Int) (w:World) (b1: -9223372036854775808<n) (b2:n≤9223372036854775807):Calls Tryz.prog 38 #[.int .i64 n,.int .i64 1] w (RrPost w ((n:Int):Rat) 2):=by
 have:=dOf_any n 1 w b1 b2 (by decide) (by decide)
 rwa[one_div2] at this
theorem dAdd2_any (v1 v2:Value) (q1 q2:Rat) (k j:Nat) (w:World) (h1:Rr w v1 q1 k) (h2:Rr w v2 q2 j) (hp:1≤k) (hp2:1≤j) (hk:k≤10000) (hj:j≤10000):
 Calls Tryz.prog 62 #[v1,v2] w (RrPost w (q1+q2) (k+j+1)):=by
 obtain⟨b1,ad1,n1,c1,ae1,m1,d1,z1,D1,rfl,hn1,hd1,hD1,hq1,lz1,lD1⟩:=h1.shape
 have h1:Rr w (.agg #[.bool b1,.slice ad1 n1 c1,.slice ae1 m1 d1]) q1 k:=⟨_,_,_,_,_,_,_,_,_,rfl,hn1,hd1,hD1,hq1,lz1,lD1⟩
 have ha1:=hn1.abs
 have hb1:=hn1.neg
 replace hq1:=Lib.hid hq1
 obtain⟨b2,ad2,n2,c2,ae2,m2,d2,z2,D2,rfl,hn2,hd2,hD2,hq2,lz2,lD2⟩:=h2.shape
 have h2:Rr w (.agg #[.bool b2,.slice ad2 n2 c2,.slice ae2 m2 d2]) q2 j:=⟨_,_,_,_,_,_,_,_,_,rfl,hn2,hd2,hD2,hq2,lz2,lD2⟩
 have ha2:=hn2.abs
 have hb2:=hn2.neg
 replace hq2:=Lib.hid hq2
 have st:=St.start w
 refine E.enter (nt:=26) (L:=[(0,.agg #[.bool b1,.slice ad1 n1 c1,.slice ae1 m1 d1]),(1,.agg #[.bool b2,.slice ad2 n2 c2,.slice ae2 m2 d2])]) Tryz.func62 rfl rfl rfl (args_cons (i:=0) rfl (args_cons (i:=1) rfl args_nil)) ?_
 intro a hF
 refine wp_seq ?_
 refine E.seq ?_
 refine S.box st hF (hF.at 0 rfl) rfl rfl fun g2 w1 a st hF=>?_
 refine S.box st hF (hF.at 2 rfl) rfl rfl fun g3 w2 a st hF=>?_
 refine S.alloc st hF ty_RRat rfl rfl fun g4 w3 a st hF=>?_
 refine E.nil ?_
 refine wp_seq ?_
 refine E.drawn2 9 mixed hF [some 7,some 8,some 9,some 10,some 11,some 12,some 5,some 6,none] [(fun _ v=>v= .pointer (some ⟨g2,2,none⟩)),(fun _ v=>v= .slice ae1 m1 d1),(fun _ v=>v= .agg #[.bool false,.slice ae1 m1 d1]),(fun _ v=>v= .pointer (some ⟨g3,2,none⟩)),(fun _ v=>v= .slice ae2 m2 d2),(fun _ v=>v= .agg #[.bool false,.slice ae2 m2 d2]),(fun _ _=>True),(fun _ _=>True),(fun _ _=>True)] [6,7] [⟨8,6,2⟩] [[],[],[],[],[],[],[.bool false,.slice none 0 0],[.bool false,.slice none 0 0],[]] (by decide+kernel) (by decide+kernel) rfl rfl rfl (by decide+kernel) (by decide+kernel) ⟨(Mk.eq _),(Mk.eq _),(Mk.eq _),(Mk.eq _),(Mk.eq _),(Mk.eq _),Mk.any,Mk.any,Mk.any,trivial⟩ ⟨?_,?_,?_,?_,?_,?_,?_,?_,?_,trivial⟩ ?_
 ·refine step2_val rfl ?_
  intro a' w' hF' hb hd
  exact dw0 (r_field (hF'.at 2 rfl) (fa_RRat_1 (p:=2) rfl)) rfl rfl rfl
 ·refine step2_val rfl ?_
  intro a' w' hF' hb hd
  have e7:=sHe2 hd 0 7 rfl rfl rfl rfl rfl
  exact dw0 (r_load e7 (ld_Num (v:= .slice ae1 m1 d1) ((st.b 2 rfl rfl).below hb) rfl)) rfl rfl rfl
 ·refine step2_val rfl ?_
  intro a' w' hF' hb hd
  have e8:=sHe2 hd 0 8 rfl rfl rfl rfl rfl
  exact dw0 (r_build (pair1 e8) (bd_RInt_1 _ _ _ _)) rfl rfl rfl
 ·refine step2_val rfl ?_
  intro a' w' hF' hb hd
  exact dw0 (r_field (hF'.at 1 rfl) (fa_RRat_1 (p:=2) rfl)) rfl rfl rfl
 ·refine step2_val rfl ?_
  intro a' w' hF' hb hd
  have e10:=sHe2 hd 0 10 rfl rfl rfl rfl rfl
  exact dw0 (r_load e10 (ld_Num (v:= .slice ae2 m2 d2) ((st.b 1 rfl rfl).below hb) rfl)) rfl rfl rfl
 ·refine step2_val rfl ?_
  intro a' w' hF' hb hd
  have e11:=sHe2 hd 0 11 rfl rfl rfl rfl rfl
  exact dw0 (r_build (pair1 e11) (bd_RInt_1 _ _ _ _)) rfl rfl rfl
 ·refine step2_val rfl ?_
  intro a' w' hF' hb hd
  obtain⟨g,w2,ge,hr,bb,on⟩:=own_alloc (P:=Tryz.prog) (w:=w') (cs:=[.bool false,.slice none 0 0]) 38 ze_RInt rfl (niB (niS ni0))
  subst ge
  exact if_does (wanted_free rfl) (Does.vals (r_alloc hr) ⟨(fun h=>absurd h (by decide)),bb,fun _=>⟨rfl,on⟩⟩)
 ·refine step2_val rfl ?_
  intro a' w' hF' hb hd
  obtain⟨g,w2,ge,hr,bb,on⟩:=own_alloc (P:=Tryz.prog) (w:=w') (cs:=[.bool false,.slice none 0 0]) 38 ze_RInt rfl (niB (niS ni0))
  subst ge
  exact if_does (wanted_free rfl) (Does.vals (r_alloc hr) ⟨(fun h=>absurd h (by decide)),bb,fun _=>⟨rfl,on⟩⟩)
 ·exact step2_sto ⟨⟨8,6,2⟩,by simp,rfl⟩ (b:=6) (v:=2) rfl rfl rfl rfl rfl rfl sz_RInt rfl (by decide) (by decide) (fun _ _ h=>⟨[.bool false,.slice ae1 m1 d1],by rw[h];rfl,rfl,(niB (niS ni0)),(ocB (ocS oc0))⟩)
 intro a w4 hF bb hall hblk hne
 have s0:=st
 replace st:=st.to bb
 have e9:=sSe2 hall 2 9 rfl rfl rfl
 have e12:=sSe2 hall 5 12 rfl rfl rfl
 obtain⟨g5,cs5,e5,ge5,o5,hc5⟩:=hblk 6 5 (by decide) rfl
 have hc5:=(hc5.2 ⟨8,6,2⟩ (by simp) rfl).2 rfl 9 rfl
 rw[e9] at hc5
 obtain rfl:cs5=[.bool false,.slice ae1 m1 d1]:=by have hx:=congrArg Array.toList hc5;exact hx.symm
 clear hc5
 replace st:=st.push o5.blk (Nat.le_trans s0.bel.size ge5) (s0.ne ge5)
 clear o5
 obtain⟨g6,cs6,e6,ge6,o6,hc6⟩:=hblk 7 6 (by decide) rfl
 obtain rfl:cs6=[.bool false,.slice none 0 0]:=hc6.1 (notBlk_spec rfl)
 clear hc6
 replace st:=st.push o6.blk (Nat.le_trans s0.bel.size ge6) (ne_cons (fun(e:g5=g6)=>hne 6 7 5 6 (by decide) (by decide) (by decide) rfl rfl (by rw[e5,e6,e])) (s0.ne ge6))
 clear o6
 clear hall hblk hne bb s0
 clear e9
 replace hF:=hF.add e12
 clear e12
 replace hF:=hF.add e5
 clear e5
 replace hF:=hF.add e6
 clear e6
 refine S.sto st hF 0 rfl (hF.at 0 rfl) (hF.at 2 rfl) ty_RInt rfl rfl rfl rfl fun w5 a st hF=>?_
 refine E.nil ?_
 refine wp_seq ?_
 refine E.drawn 13 mixed hF [13,14,15,16,17,18,19,20,21,22,23,24,25] [(fun _ v=>v= .pointer (some ⟨g2,0,none⟩)),(fun _ v=>v= .agg #[.bool b1,.slice ad1 n1 c1]),(fun _ v=>v= .agg #[.bool false,.slice ae2 m2 d2]),(fun w v=>Rz w v (z1*(((D2:Nat):Int)))),(fun _ v=>v= .pointer (some ⟨g3,0,none⟩)),(fun _ v=>v= .agg #[.bool b2,.slice ad2 n2 c2]),(fun _ v=>v= .agg #[.bool false,.slice ae1 m1 d1]),(fun w v=>Rz w v (z2*(((D1:Nat):Int)))),(fun w v=>Rz w v ((z1*(((D2:Nat):Int)))+(z2*(((D1:Nat):Int))))),(fun _ v=>v= .agg #[.bool false,.slice ae1 m1 d1]),(fun _ v=>v= .agg #[.bool false,.slice ae2 m2 d2]),(fun w v=>Rz w v ((((D1:Nat):Int))*(((D2:Nat):Int)))),(fun w v=>Rr w v ((((z1*(((D2:Nat):Int)))+(z2*(((D1:Nat):Int))):Int):Rat)/(((((D1:Nat):Int))*(((D2:Nat):Int)):Int):Rat)) ((max ((max (k+j) (j+k))+1) (k+j))))] [] (by decide+kernel) (by decide+kernel) rfl rfl rfl ⟨(Mb.eq _),(Mb.eq _),(Mb.eq _),(fun _ _ _ h hb=>h.below hb),(Mb.eq _),(Mb.eq _),(Mb.eq _),(fun _ _ _ h hb=>h.below hb),(fun _ _ _ h hb=>h.below hb),(Mb.eq _),(Mb.eq _),(fun _ _ _ h hb=>h.below hb),(fun _ _ _ h hb=>h.below hb),trivial⟩ trivial ⟨?_,?_,?_,?_,?_,?_,?_,?_,?_,?_,?_,?_,?_,trivial⟩ ?_
 ·intro a' w' hF' hb hd
  exact dv0 (r_field (hF'.at 5 rfl) (fa_RRat_0 (p:=0) rfl)) rfl rfl rfl
 ·intro a' w' hF' hb hd
  have e13:=sHe hd 0 13 rfl rfl rfl rfl
  exact dv0 (r_load e13 (ld_RInt (vs:=[.bool b1,.slice ad1 n1 c1]) ((st.b 4 rfl rfl).below hb) rfl rfl)) rfl rfl rfl
 ·intro a' w' hF' hb hd
  exact dv0 (r_load (hF'.at 0 rfl) (ld_all ty_RInt ((st.bk 0 rfl).below hb) rfl)) rfl rfl rfl
 ·intro a' w' hF' hb hd
  have e14:=sHe hd 0 14 rfl rfl rfl rfl
  have e15:=sHe hd 1 15 rfl rfl rfl rfl
  exact dc0 (r_call Tryz.func74 en74.1 en74.2 (map2 e14 e15)) (rmul_any _ _ _ _ k j _ (hn1.below (below_to st.bel hb)) (Rz.nat (hd2.below (below_to st.bel hb))) lz1 (lim_cast lD2) (by omega) (by omega)) rfl rfl
 ·intro a' w' hF' hb hd
  exact dv0 (r_field (hF'.at 4 rfl) (fa_RRat_0 (p:=0) rfl)) rfl rfl rfl
 ·intro a' w' hF' hb hd
  have e17:=sHe hd 0 17 rfl rfl rfl rfl
  exact dv0 (r_load e17 (ld_RInt (vs:=[.bool b2,.slice ad2 n2 c2]) ((st.b 3 rfl rfl).below hb) rfl rfl)) rfl rfl rfl
 ·intro a' w' hF' hb hd
  exact dv0 (r_load (hF'.at 1 rfl) (ld_all ty_RInt ((st.bk 1 rfl).below hb) rfl)) rfl rfl rfl
 ·intro a' w' hF' hb hd
  have e18:=sHe hd 0 18 rfl rfl rfl rfl
  have e19:=sHe hd 1 19 rfl rfl rfl rfl
  exact dc0 (r_call Tryz.func74 en74.1 en74.2 (map2 e18 e19)) (rmul_any _ _ _ _ j k _ (hn2.below (below_to st.bel hb)) (Rz.nat (hd1.below (below_to st.bel hb))) lz2 (lim_cast lD1) (by omega) (by omega)) rfl rfl
 ·intro a' w' hF' hb hd
  obtain⟨v16_0,e16,h16_1⟩:=sH hd 0 16 rfl rfl rfl rfl
  obtain⟨v20_0,e20,h20_1⟩:=sH hd 1 20 rfl rfl rfl rfl
  exact dc0 (r_call Tryz.func126 en126.1 en126.2 (map2 e16 e20)) (radd_any3 _ _ _ _ (k+j) (j+k) _ h16_1 h20_1 (limz_mul lz1 (lim_cast lD2)) (limz_mul lz2 (lim_cast lD1)) (by omega) (by omega)) rfl rfl
 ·intro a' w' hF' hb hd
  exact dv0 (r_load (hF'.at 1 rfl) (ld_all ty_RInt ((st.bk 1 rfl).below hb) rfl)) rfl rfl rfl
 ·intro a' w' hF' hb hd
  exact dv0 (r_load (hF'.at 0 rfl) (ld_all ty_RInt ((st.bk 0 rfl).below hb) rfl)) rfl rfl rfl
 ·intro a' w' hF' hb hd
  have e22:=sHe hd 0 22 rfl rfl rfl rfl
  have e23:=sHe hd 1 23 rfl rfl rfl rfl
  exact dc0 (r_call Tryz.func74 en74.1 en74.2 (map2 e22 e23)) (rmul_any _ _ _ _ k j _ (Rz.nat (hd1.below (below_to st.bel hb))) (Rz.nat (hd2.below (below_to st.bel hb))) (lim_cast lD1) (lim_cast lD2) (by omega) (by omega)) rfl rfl
 ·intro a' w' hF' hb hd
  obtain⟨v21_0,e21,h21_1⟩:=sH hd 0 21 rfl rfl rfl rfl
  obtain⟨v24_0,e24,h24_1⟩:=sH hd 1 24 rfl rfl rfl rfl
  exact dc0 (r_call Tryz.func104 en104.1 en104.2 (map2 e21 e24)) (dmk_any _ _ ((z1*(((D2:Nat):Int)))+(z2*(((D1:Nat):Int)))) ((((D1:Nat):Int))*(((D2:Nat):Int))) (max ((max (k+j) (j+k))+1) (k+j)) _ h21_1 h24_1 (Lim.up (limz_add (limz_mul lz1 (lim_cast lD2)) (limz_mul lz2 (lim_cast lD1)) ((max (k+j) (j+k))+1) (by omega) (by omega)) _ (by omega)) (Lim.up (limz_mul (lim_cast lD1) (lim_cast lD2)) _ (by omega)) (by omega)) rfl rfl
 intro a w6 hF bb hall hne
 replace st:=st.to bb
 obtain⟨vv7,e25,hh8⟩:=sS hall 12 25 rfl rfl
 replace st:=st.add hh8 (Rr.cl _)
 clear hh8
 clear hall hne bb
 obtain⟨b9,ad9,n9,c9,ae9,m9,d9,rfl⟩:=Rr.form (st.f 0 rfl)
 replace hF:=hF.add e25
 clear e25
 refine S.sto st hF 2 rfl (hF.at 4 rfl) (hF.at 0 rfl) ty_RRat rfl rfl rfl rfl fun w10 a st hF=>?_
 refine E.nil ?_
 refine wp_ret ?_
 refine S.ret Tryz.results62 st hF (hF.at 4 rfl) 2 rfl ty_RRat rfl hF.dfr ?_
 have bel:=st.bel
 exact⟨_,rfl,Rr.cast (Rr.up (st.f 0 rfl) _ (by omega)) (by rw[hq1.out,hq2.out];exact radd_eq hD1 hD2),bel⟩
theorem dMul2_any (v1 v2:Value) (q1 q2:Rat) (k j:Nat) (w:World) (h1:Rr w v1 q1 k) (h2:Rr w v2 q2 j) (hp:1≤k) (hp2:1≤j) (hk:k≤10000) (hj:j≤10000):
 Calls Tryz.prog 63 #[v1,v2] w (RrPost w (q1*q2) (k+j)):=by
 obtain⟨b1,ad1,n1,c1,ae1,m1,d1,z1,D1,rfl,hn1,hd1,hD1,hq1,lz1,lD1⟩:=h1.shape
 have h1:Rr w (.agg #[.bool b1,.slice ad1 n1 c1,.slice ae1 m1 d1]) q1 k:=⟨_,_,_,_,_,_,_,_,_,rfl,hn1,hd1,hD1,hq1,lz1,lD1⟩
 have ha1:=hn1.abs
 have hb1:=hn1.neg
 replace hq1:=Lib.hid hq1
 obtain⟨b2,ad2,n2,c2,ae2,m2,d2,z2,D2,rfl,hn2,hd2,hD2,hq2,lz2,lD2⟩:=h2.shape
 have h2:Rr w (.agg #[.bool b2,.slice ad2 n2 c2,.slice ae2 m2 d2]) q2 j:=⟨_,_,_,_,_,_,_,_,_,rfl,hn2,hd2,hD2,hq2,lz2,lD2⟩
 have ha2:=hn2.abs
 have hb2:=hn2.neg
 replace hq2:=Lib.hid hq2
 have st:=St.start w
 refine E.enter (nt:=17) (L:=[(0,.agg #[.bool b1,.slice ad1 n1 c1,.slice ae1 m1 d1]),(1,.agg #[.bool b2,.slice ad2 n2 c2,.slice ae2 m2 d2])]) Tryz.func63 rfl rfl rfl (args_cons (i:=0) rfl (args_cons (i:=1) rfl args_nil)) ?_
 intro a hF
 refine wp_seq ?_
 refine E.seq ?_
 refine S.box st hF (hF.at 0 rfl) rfl rfl fun g2 w1 a st hF=>?_
 refine S.box st hF (hF.at 2 rfl) rfl rfl fun g3 w2 a st hF=>?_
 refine S.alloc st hF ty_RRat rfl rfl fun g4 w3 a st hF=>?_
 refine E.nil ?_
 refine wp_seq ?_
 refine E.drawn 12 mixed hF [5,6,7,8,9,10,11,12,13,14,15,16] [(fun _ v=>v= .pointer (some ⟨g2,0,none⟩)),(fun _ v=>v= .agg #[.bool b1,.slice ad1 n1 c1]),(fun _ v=>v= .pointer (some ⟨g3,0,none⟩)),(fun _ v=>v= .agg #[.bool b2,.slice ad2 n2 c2]),(fun w v=>Rz w v (z1*z2)),(fun _ v=>v= .pointer (some ⟨g2,2,none⟩)),(fun _ v=>v= .slice ae1 m1 d1),(fun _ v=>v= .pointer (some ⟨g3,2,none⟩)),(fun _ v=>v= .slice ae2 m2 d2),(fun w v=>Dg w .i64 65536 v ((D1)*(D2))),(fun w v=>Rz w v ((((D1)*(D2):Nat):Int))),(fun w v=>Rr w v (((z1*z2:Int):Rat)/(((((D1)*(D2):Nat):Int):Int):Rat)) ((k+j)))] [] (by decide+kernel) (by decide+kernel) rfl rfl rfl ⟨(Mb.eq _),(Mb.eq _),(Mb.eq _),(Mb.eq _),(fun _ _ _ h hb=>h.below hb),(Mb.eq _),(Mb.eq _),(Mb.eq _),(Mb.eq _),(fun _ _ _ h hb=>h.below hb),(fun _ _ _ h hb=>h.below hb),(fun _ _ _ h hb=>h.below hb),trivial⟩ trivial ⟨?_,?_,?_,?_,?_,?_,?_,?_,?_,?_,?_,?_,trivial⟩ ?_
 ·intro a' w' hF' hb hd
  exact dv0 (r_field (hF'.at 2 rfl) (fa_RRat_0 (p:=0) rfl)) rfl rfl rfl
 ·intro a' w' hF' hb hd
  have e5:=sHe hd 0 5 rfl rfl rfl rfl
  exact dv0 (r_load e5 (ld_RInt (vs:=[.bool b1,.slice ad1 n1 c1]) ((st.b 2 rfl rfl).below hb) rfl rfl)) rfl rfl rfl
 ·intro a' w' hF' hb hd
  exact dv0 (r_field (hF'.at 1 rfl) (fa_RRat_0 (p:=0) rfl)) rfl rfl rfl
 ·intro a' w' hF' hb hd
  have e7:=sHe hd 0 7 rfl rfl rfl rfl
  exact dv0 (r_load e7 (ld_RInt (vs:=[.bool b2,.slice ad2 n2 c2]) ((st.b 1 rfl rfl).below hb) rfl rfl)) rfl rfl rfl
 ·intro a' w' hF' hb hd
  have e6:=sHe hd 0 6 rfl rfl rfl rfl
  have e8:=sHe hd 1 8 rfl rfl rfl rfl
  exact dc0 (r_call Tryz.func74 en74.1 en74.2 (map2 e6 e8)) (rmul_any _ _ _ _ k j _ (hn1.below (below_to st.bel hb)) (hn2.below (below_to st.bel hb)) lz1 lz2 (by omega) (by omega)) rfl rfl
 ·intro a' w' hF' hb hd
  exact dv0 (r_field (hF'.at 2 rfl) (fa_RRat_1 (p:=2) rfl)) rfl rfl rfl
 ·intro a' w' hF' hb hd
  have e10:=sHe hd 0 10 rfl rfl rfl rfl
  exact dv0 (r_load e10 (ld_Num (v:= .slice ae1 m1 d1) ((st.b 2 rfl rfl).below hb) rfl)) rfl rfl rfl
 ·intro a' w' hF' hb hd
  exact dv0 (r_field (hF'.at 1 rfl) (fa_RRat_1 (p:=2) rfl)) rfl rfl rfl
 ·intro a' w' hF' hb hd
  have e12:=sHe hd 0 12 rfl rfl rfl rfl
  exact dv0 (r_load e12 (ld_Num (v:= .slice ae2 m2 d2) ((st.b 1 rfl rfl).below hb) rfl)) rfl rfl rfl
 ·intro a' w' hF' hb hd
  have e11:=sHe hd 0 11 rfl rfl rfl rfl
  have e13:=sHe hd 1 13 rfl rfl rfl rfl
  exact dc0 (r_call Tryz.func127 en127.1 en127.2 (map2 e11 e13)) (smul_any _ _ D1 D2 _ (hd1.below (below_to st.bel hb)) (hd2.below (below_to st.bel hb)) (Lim.dh lD1 _ (by omega)) (Lim.dh lD2 _ (by omega))) rfl rfl
 ·intro a' w' hF' hb hd
  obtain⟨v14_0,e14,h14_1⟩:=sH hd 0 14 rfl rfl rfl rfl
  obtain⟨ad4,n4,c4,rfl⟩:=Dg.form h14_1
  exact dv0 (r_build (pair1 e14) (bd_RInt_1 _ _ _ _)) (Rz.nat h14_1) rfl rfl
 ·intro a' w' hF' hb hd
  obtain⟨v9_0,e9,h9_1⟩:=sH hd 0 9 rfl rfl rfl rfl
  obtain⟨v15,e15,h15⟩:=sH hd 1 15 rfl rfl rfl rfl
  exact dc0 (r_call Tryz.func104 en104.1 en104.2 (map2 e9 e15)) (dmk_any _ _ (z1*z2) ((((D1)*(D2):Nat):Int)) (k+j) _ h9_1 h15 (Lim.up (limz_mul lz1 lz2) _ (by omega)) (Lim.up (lim_cast (Lim.mul lD1 lD2)) _ (by omega)) (by omega)) rfl rfl
 intro a w5 hF bb hall hne
 replace st:=st.to bb
 obtain⟨vv6,e16,hh7⟩:=sS hall 11 16 rfl rfl
 replace st:=st.add hh7 (Rr.cl _)
 clear hh7
 clear hall hne bb
 obtain⟨b8,ad8,n8,c8,ae8,m8,d8,rfl⟩:=Rr.form (st.f 0 rfl)
 replace hF:=hF.add e16
 clear e16
 refine S.sto st hF 0 rfl (hF.at 1 rfl) (hF.at 0 rfl) ty_RRat rfl rfl rfl rfl fun w9 a st hF=>?_
 refine E.nil ?_
 refine wp_ret ?_
 refine S.ret Tryz.results63 st hF (hF.at 1 rfl) 0 rfl ty_RRat rfl hF.dfr ?_
 have bel:=st.bel
 exact⟨_,rfl,Rr.cast (Rr.up (st.f 0 rfl) _ (by omega)) (by rw[hq1.out,hq2.out];exact rmul_eq hD1 hD2),bel⟩
theorem dDiv2_any (v1 v2:Value) (q1 q2:Rat) (k j:Nat) (w:World) (h1:Rr w v1 q1 k) (h2:Rr w v2 q2 j) (hp:1≤k) (hp2:1≤j) (hk:k≤10000) (hj:j≤10000):
 Calls Tryz.prog 81 #[v1,v2] w (RrPost w (q1/q2) (k+j)):=by
 obtain⟨b1,ad1,n1,c1,ae1,m1,d1,z1,D1,rfl,hn1,hd1,hD1,hq1,lz1,lD1⟩:=h1.shape
 have h1:Rr w (.agg #[.bool b1,.slice ad1 n1 c1,.slice ae1 m1 d1]) q1 k:=⟨_,_,_,_,_,_,_,_,_,rfl,hn1,hd1,hD1,hq1,lz1,lD1⟩
 have ha1:=hn1.abs
 have hb1:=hn1.neg
 replace hq1:=Lib.hid hq1
 obtain⟨b2,ad2,n2,c2,ae2,m2,d2,z2,D2,rfl,hn2,hd2,hD2,hq2,lz2,lD2⟩:=h2.shape
 have h2:Rr w (.agg #[.bool b2,.slice ad2 n2 c2,.slice ae2 m2 d2]) q2 j:=⟨_,_,_,_,_,_,_,_,_,rfl,hn2,hd2,hD2,hq2,lz2,lD2⟩
 have ha2:=hn2.abs
 have hb2:=hn2.neg
 replace hq2:=Lib.hid hq2
 have st:=St.start w
 refine E.enter (nt:=18) (L:=[(0,.agg #[.bool b1,.slice ad1 n1 c1,.slice ae1 m1 d1]),(1,.agg #[.bool b2,.slice ad2 n2 c2,.slice ae2 m2 d2])]) Tryz.func81 rfl rfl rfl (args_cons (i:=0) rfl (args_cons (i:=1) rfl args_nil)) ?_
 intro a hF
 refine wp_seq ?_
 refine E.seq ?_
 refine S.box st hF (hF.at 0 rfl) rfl rfl fun g2 w1 a st hF=>?_
 refine S.box st hF (hF.at 2 rfl) rfl rfl fun g3 w2 a st hF=>?_
 refine S.alloc st hF ty_RRat rfl rfl fun g4 w3 a st hF=>?_
 refine E.nil ?_
 refine wp_seq ?_
 refine E.drawn 13 mixed hF [5,6,7,8,9,10,11,12,13,14,15,16,17] [(fun _ v=>v= .pointer (some ⟨g2,0,none⟩)),(fun _ v=>v= .agg #[.bool b1,.slice ad1 n1 c1]),(fun _ v=>v= .pointer (some ⟨g3,2,none⟩)),(fun _ v=>v= .slice ae2 m2 d2),(fun _ v=>v= .agg #[.bool false,.slice ae2 m2 d2]),(fun w v=>Rz w v (z1*(((D2:Nat):Int)))),(fun _ v=>v= .pointer (some ⟨g2,2,none⟩)),(fun _ v=>v= .slice ae1 m1 d1),(fun _ v=>v= .agg #[.bool false,.slice ae1 m1 d1]),(fun _ v=>v= .pointer (some ⟨g3,0,none⟩)),(fun _ v=>v= .agg #[.bool b2,.slice ad2 n2 c2]),(fun w v=>Rz w v ((((D1:Nat):Int))*z2)),(fun w v=>Rr w v (((z1*(((D2:Nat):Int)):Int):Rat)/(((((D1:Nat):Int))*z2:Int):Rat)) ((k+j)))] [] (by decide+kernel) (by decide+kernel) rfl rfl rfl ⟨(Mb.eq _),(Mb.eq _),(Mb.eq _),(Mb.eq _),(Mb.eq _),(fun _ _ _ h hb=>h.below hb),(Mb.eq _),(Mb.eq _),(Mb.eq _),(Mb.eq _),(Mb.eq _),(fun _ _ _ h hb=>h.below hb),(fun _ _ _ h hb=>h.below hb),trivial⟩ trivial ⟨?_,?_,?_,?_,?_,?_,?_,?_,?_,?_,?_,?_,?_,trivial⟩ ?_
 ·intro a' w' hF' hb hd
  exact dv0 (r_field (hF'.at 2 rfl) (fa_RRat_0 (p:=0) rfl)) rfl rfl rfl
 ·intro a' w' hF' hb hd
  have e5:=sHe hd 0 5 rfl rfl rfl rfl
  exact dv0 (r_load e5 (ld_RInt (vs:=[.bool b1,.slice ad1 n1 c1]) ((st.b 2 rfl rfl).below hb) rfl rfl)) rfl rfl rfl
 ·intro a' w' hF' hb hd
  exact dv0 (r_field (hF'.at 1 rfl) (fa_RRat_1 (p:=2) rfl)) rfl rfl rfl
 ·intro a' w' hF' hb hd
  have e7:=sHe hd 0 7 rfl rfl rfl rfl
  exact dv0 (r_load e7 (ld_Num (v:= .slice ae2 m2 d2) ((st.b 1 rfl rfl).below hb) rfl)) rfl rfl rfl
 ·intro a' w' hF' hb hd
  have e8:=sHe hd 0 8 rfl rfl rfl rfl
  exact dv0 (r_build (pair1 e8) (bd_RInt_1 _ _ _ _)) rfl rfl rfl
 ·intro a' w' hF' hb hd
  have e6:=sHe hd 0 6 rfl rfl rfl rfl
  have e9:=sHe hd 1 9 rfl rfl rfl rfl
  exact dc0 (r_call Tryz.func74 en74.1 en74.2 (map2 e6 e9)) (rmul_any _ _ _ _ k j _ (hn1.below (below_to st.bel hb)) (Rz.nat (hd2.below (below_to st.bel hb))) lz1 (lim_cast lD2) (by omega) (by omega)) rfl rfl
 ·intro a' w' hF' hb hd
  exact dv0 (r_field (hF'.at 2 rfl) (fa_RRat_1 (p:=2) rfl)) rfl rfl rfl
 ·intro a' w' hF' hb hd
  have e11:=sHe hd 0 11 rfl rfl rfl rfl
  exact dv0 (r_load e11 (ld_Num (v:= .slice ae1 m1 d1) ((st.b 2 rfl rfl).below hb) rfl)) rfl rfl rfl
 ·intro a' w' hF' hb hd
  have e12:=sHe hd 0 12 rfl rfl rfl rfl
  exact dv0 (r_build (pair1 e12) (bd_RInt_1 _ _ _ _)) rfl rfl rfl
 ·intro a' w' hF' hb hd
  exact dv0 (r_field (hF'.at 1 rfl) (fa_RRat_0 (p:=0) rfl)) rfl rfl rfl
 ·intro a' w' hF' hb hd
  have e14:=sHe hd 0 14 rfl rfl rfl rfl
  exact dv0 (r_load e14 (ld_RInt (vs:=[.bool b2,.slice ad2 n2 c2]) ((st.b 1 rfl rfl).below hb) rfl rfl)) rfl rfl rfl
 ·intro a' w' hF' hb hd
  have e13:=sHe hd 0 13 rfl rfl rfl rfl
  have e15:=sHe hd 1 15 rfl rfl rfl rfl
  exact dc0 (r_call Tryz.func74 en74.1 en74.2 (map2 e13 e15)) (rmul_any _ _ _ _ k j _ (Rz.nat (hd1.below (below_to st.bel hb))) (hn2.below (below_to st.bel hb)) (lim_cast lD1) lz2 (by omega) (by omega)) rfl rfl
 ·intro a' w' hF' hb hd
  obtain⟨v10_0,e10,h10_1⟩:=sH hd 0 10 rfl rfl rfl rfl
  obtain⟨v16_0,e16,h16_1⟩:=sH hd 1 16 rfl rfl rfl rfl
  exact dc0 (r_call Tryz.func104 en104.1 en104.2 (map2 e10 e16)) (dmk_any _ _ (z1*(((D2:Nat):Int))) ((((D1:Nat):Int))*z2) (k+j) _ h10_1 h16_1 (Lim.up (limz_mul lz1 (lim_cast lD2)) _ (by omega)) (Lim.up (limz_mul (lim_cast lD1) lz2) _ (by omega)) (by omega)) rfl rfl
 intro a w4 hF bb hall hne
 replace st:=st.to bb
 obtain⟨vv5,e17,hh6⟩:=sS hall 12 17 rfl rfl
 replace st:=st.add hh6 (Rr.cl _)
 clear hh6
 clear hall hne bb
 obtain⟨b7,ad7,n7,c7,ae7,m7,d7,rfl⟩:=Rr.form (st.f 0 rfl)
 replace hF:=hF.add e17
 clear e17
 refine S.sto st hF 0 rfl (hF.at 1 rfl) (hF.at 0 rfl) ty_RRat rfl rfl rfl rfl fun w8 a st hF=>?_
 refine E.nil ?_
 refine wp_ret ?_
 refine S.ret Tryz.results81 st hF (hF.at 1 rfl) 0 rfl ty_RRat rfl hF.dfr ?_
 have bel:=st.bel
 exact⟨_,rfl,Rr.cast (Rr.up (st.f 0 rfl) _ (by omega)) (by rw[hq1.out,hq2.out];exact rdiv_eq hD1 hD2),bel⟩
theorem dCmp2_any (v1 v2:Value) (q1 q2:Rat) (k j:Nat) (w:World) (h1:Rr w v1 q1 k) (h2:Rr w v2 q2 j) (hk:k≤10000) (hj:j≤10000):
 Calls Tryz.prog 196 #[v1,v2] w (IntPost w (qc q1 q2)):=by
 obtain⟨b1,ad1,n1,c1,ae1,m1,d1,z1,D1,rfl,hn1,hd1,hD1,hq1,lz1,lD1⟩:=h1.shape
 have h1:Rr w (.agg #[.bool b1,.slice ad1 n1 c1,.slice ae1 m1 d1]) q1 k:=⟨_,_,_,_,_,_,_,_,_,rfl,hn1,hd1,hD1,hq1,lz1,lD1⟩
 have ha1:=hn1.abs
 have hb1:=hn1.neg
 replace hq1:=Lib.hid hq1
 obtain⟨b2,ad2,n2,c2,ae2,m2,d2,z2,D2,rfl,hn2,hd2,hD2,hq2,lz2,lD2⟩:=h2.shape
 have h2:Rr w (.agg #[.bool b2,.slice ad2 n2 c2,.slice ae2 m2 d2]) q2 j:=⟨_,_,_,_,_,_,_,_,_,rfl,hn2,hd2,hD2,hq2,lz2,lD2⟩
 have ha2:=hn2.abs
 have hb2:=hn2.neg
 replace hq2:=Lib.hid hq2
 have st:=St.start w
 refine E.enter (nt:=18) (L:=[(0,.agg #[.bool b1,.slice ad1 n1 c1,.slice ae1 m1 d1]),(1,.agg #[.bool b2,.slice ad2 n2 c2,.slice ae2 m2 d2])]) Tryz.func196 rfl rfl rfl (args_cons (i:=0) rfl (args_cons (i:=1) rfl args_nil)) ?_
 intro a hF
 refine wp_seq ?_
 refine E.seq ?_
 refine S.box st hF (hF.at 0 rfl) rfl rfl fun g2 w1 a st hF=>?_
 refine S.box st hF (hF.at 2 rfl) rfl rfl fun g3 w2 a st hF=>?_
 refine E.opv hF (r_assign ev_c) rfl rfl rfl rfl fun a hF=>?_
 refine E.nil ?_
 refine wp_seq ?_
 refine E.drawn 13 mixed hF [5,6,7,8,9,10,11,12,13,14,15,16,17] [(fun _ v=>v= .pointer (some ⟨g2,0,none⟩)),(fun _ v=>v= .agg #[.bool b1,.slice ad1 n1 c1]),(fun _ v=>v= .pointer (some ⟨g3,2,none⟩)),(fun _ v=>v= .slice ae2 m2 d2),(fun _ v=>v= .agg #[.bool false,.slice ae2 m2 d2]),(fun w v=>Rz w v (z1*(((D2:Nat):Int)))),(fun _ v=>v= .pointer (some ⟨g3,0,none⟩)),(fun _ v=>v= .agg #[.bool b2,.slice ad2 n2 c2]),(fun _ v=>v= .pointer (some ⟨g2,2,none⟩)),(fun _ v=>v= .slice ae1 m1 d1),(fun _ v=>v= .agg #[.bool false,.slice ae1 m1 d1]),(fun w v=>Rz w v (z2*(((D1:Nat):Int)))),(fun _ v=>v= .int .i64 (ci (z1*(((D2:Nat):Int))) (z2*(((D1:Nat):Int)))))] [] (by decide+kernel) (by decide+kernel) rfl rfl rfl ⟨(Mb.eq _),(Mb.eq _),(Mb.eq _),(Mb.eq _),(Mb.eq _),(fun _ _ _ h hb=>h.below hb),(Mb.eq _),(Mb.eq _),(Mb.eq _),(Mb.eq _),(Mb.eq _),(fun _ _ _ h hb=>h.below hb),(Mb.eq _),trivial⟩ trivial ⟨?_,?_,?_,?_,?_,?_,?_,?_,?_,?_,?_,?_,?_,trivial⟩ ?_
 ·intro a' w' hF' hb hd
  exact dv0 (r_field (hF'.at 2 rfl) (fa_RRat_0 (p:=0) rfl)) rfl rfl rfl
 ·intro a' w' hF' hb hd
  have e5:=sHe hd 0 5 rfl rfl rfl rfl
  exact dv0 (r_load e5 (ld_RInt (vs:=[.bool b1,.slice ad1 n1 c1]) ((st.b 1 rfl rfl).below hb) rfl rfl)) rfl rfl rfl
 ·intro a' w' hF' hb hd
  exact dv0 (r_field (hF'.at 1 rfl) (fa_RRat_1 (p:=2) rfl)) rfl rfl rfl
 ·intro a' w' hF' hb hd
  have e7:=sHe hd 0 7 rfl rfl rfl rfl
  exact dv0 (r_load e7 (ld_Num (v:= .slice ae2 m2 d2) ((st.b 0 rfl rfl).below hb) rfl)) rfl rfl rfl
 ·intro a' w' hF' hb hd
  have e8:=sHe hd 0 8 rfl rfl rfl rfl
  exact dv0 (r_build (pair1 e8) (bd_RInt_1 _ _ _ _)) rfl rfl rfl
 ·intro a' w' hF' hb hd
  have e6:=sHe hd 0 6 rfl rfl rfl rfl
  have e9:=sHe hd 1 9 rfl rfl rfl rfl
  exact dc0 (r_call Tryz.func74 en74.1 en74.2 (map2 e6 e9)) (rmul_any _ _ _ _ k j _ (hn1.below (below_to st.bel hb)) (Rz.nat (hd2.below (below_to st.bel hb))) lz1 (lim_cast lD2) (by omega) (by omega)) rfl rfl
 ·intro a' w' hF' hb hd
  exact dv0 (r_field (hF'.at 1 rfl) (fa_RRat_0 (p:=0) rfl)) rfl rfl rfl
 ·intro a' w' hF' hb hd
  have e11:=sHe hd 0 11 rfl rfl rfl rfl
  exact dv0 (r_load e11 (ld_RInt (vs:=[.bool b2,.slice ad2 n2 c2]) ((st.b 0 rfl rfl).below hb) rfl rfl)) rfl rfl rfl
 ·intro a' w' hF' hb hd
  exact dv0 (r_field (hF'.at 2 rfl) (fa_RRat_1 (p:=2) rfl)) rfl rfl rfl
 ·intro a' w' hF' hb hd
  have e13:=sHe hd 0 13 rfl rfl rfl rfl
  exact dv0 (r_load e13 (ld_Num (v:= .slice ae1 m1 d1) ((st.b 1 rfl rfl).below hb) rfl)) rfl rfl rfl
 ·intro a' w' hF' hb hd
  have e14:=sHe hd 0 14 rfl rfl rfl rfl
  exact dv0 (r_build (pair1 e14) (bd_RInt_1 _ _ _ _)) rfl rfl rfl
 ·intro a' w' hF' hb hd
  have e12:=sHe hd 0 12 rfl rfl rfl rfl
  have e15:=sHe hd 1 15 rfl rfl rfl rfl
  exact dc0 (r_call Tryz.func74 en74.1 en74.2 (map2 e12 e15)) (rmul_any _ _ _ _ j k _ (hn2.below (below_to st.bel hb)) (Rz.nat (hd1.below (below_to st.bel hb))) lz2 (lim_cast lD1) (by omega) (by omega)) rfl rfl
 ·intro a' w' hF' hb hd
  obtain⟨v10_0,e10,h10_1⟩:=sH hd 0 10 rfl rfl rfl rfl
  obtain⟨v16_0,e16,h16_1⟩:=sH hd 1 16 rfl rfl rfl rfl
  exact dcx0 (r_call Tryz.func73 en73.1 en73.2 (map2 e10 e16)) (rcmp_any3 _ _ _ _ (k+j) (j+k) _ h10_1 h16_1 (limz_mul lz1 (lim_cast lD2)) (limz_mul lz2 (lim_cast lD1)) (by omega) (by omega)) (fun _=>rfl) rfl rfl
 intro a w3 hF bb hall hne
 replace st:=st.to bb
 have e17:=sSe hall 12 17 rfl rfl
 clear hall hne bb
 replace hF:=hF.add e17
 clear e17
 refine E.opset (L':=[(4,.int .i64 (ci (z1*(((D2:Nat):Int))) (z2*(((D1:Nat):Int))))),(17,.int .i64 (ci (z1*(((D2:Nat):Int))) (z2*(((D1:Nat):Int))))),(3,.pointer (some ⟨g3,0,none⟩)),(2,.pointer (some ⟨g2,0,none⟩)),(0,.agg #[.bool b1,.slice ad1 n1 c1,.slice ae1 m1 d1]),(1,.agg #[.bool b2,.slice ad2 n2 c2,.slice ae2 m2 d2])]) hF (r_assign (hF.at 0 rfl)) rfl rfl rfl rfl fun a hF=>?_
 refine E.nil ?_
 refine wp_ret ?_
 have bel:=st.bel
 refine bodyPost_ret (res_tmp Tryz.results196 (hF.at 0 rfl)) hF.dfr ?_
 exact⟨by rw[hq1.out,hq2.out,←ci_cross hD1 hD2],bel⟩
theorem dSub2_any (v1 v2:Value) (q1 q2:Rat) (k j:Nat) (w:World) (h1:Rr w v1 q1 k) (h2:Rr w v2 q2 j) (hp:1≤k) (hp2:1≤j) (hk:k≤10000) (hj:j≤10000):
 Calls Tryz.prog 80 #[v1,v2] w (RrPost w (q1-q2) (k+j+1)):=by
 obtain⟨b1,ad1,n1,c1,ae1,m1,d1,rfl⟩:=h1.form
 obtain⟨b2,ad2,n2,c2,ae2,m2,d2,rfl⟩:=h2.form
 have st:=St.start w
 refine E.enter (nt:=9) (L:=[(0,.agg #[.bool b1,.slice ad1 n1 c1,.slice ae1 m1 d1]),(1,.agg #[.bool b2,.slice ad2 n2 c2,.slice ae2 m2 d2])]) Tryz.func80 rfl rfl rfl (args_cons (i:=0) rfl (args_cons (i:=1) rfl args_nil)) ?_
 intro a hF
 refine wp_seq ?_
 refine E.seq ?_
 refine S.box st hF (hF.at 0 rfl) rfl rfl fun g2 w1 a st hF=>?_
 refine S.box st hF (hF.at 2 rfl) rfl rfl fun g3 w2 a st hF=>?_
 refine S.alloc st hF ty_RRat rfl rfl fun g4 w3 a st hF=>?_
 refine E.nil ?_
 refine wp_seq ?_
 refine E.drawn 4 mixed hF [5,6,7,8] [(fun _ v=>v= .agg #[.bool b1,.slice ad1 n1 c1,.slice ae1 m1 d1]),(fun _ v=>v= .agg #[.bool b2,.slice ad2 n2 c2,.slice ae2 m2 d2]),(fun w v=>Rr w v (-(q2)) (j)),(fun w v=>Rr w v ((q1)+(-(q2))) ((k+j+1)))] [] (by decide+kernel) (by decide+kernel) rfl rfl rfl ⟨(Mb.eq _),(Mb.eq _),(fun _ _ _ h hb=>h.below hb),(fun _ _ _ h hb=>h.below hb),trivial⟩ trivial ⟨?_,?_,?_,?_,trivial⟩ ?_
 ·intro a' w' hF' hb hd
  exact dv0 (r_load (hF'.at 2 rfl) (ld_all ty_RRat ((st.bk 2 rfl).below hb) rfl)) rfl rfl rfl
 ·intro a' w' hF' hb hd
  exact dv0 (r_load (hF'.at 1 rfl) (ld_all ty_RRat ((st.bk 1 rfl).below hb) rfl)) rfl rfl rfl
 ·intro a' w' hF' hb hd
  have e6:=sHe hd 0 6 rfl rfl rfl rfl
  exact dc0 (r_call Tryz.func145 en145.1 en145.2 (map1 e6)) (dOpp_any _ (q2) j _ (h2.below (below_to st.bel hb))) rfl rfl
 ·intro a' w' hF' hb hd
  have e5:=sHe hd 0 5 rfl rfl rfl rfl
  obtain⟨v7_0,e7,h7_1⟩:=sH hd 1 7 rfl rfl rfl rfl
  exact dc0 (r_call Tryz.func62 en62.1 en62.2 (map2 e5 e7)) (dAdd2_any _ _ (q1) (-(q2)) k j _ (h1.below (below_to st.bel hb)) h7_1 (by omega) (by omega) (by omega) (by omega)) rfl rfl
 intro a w4 hF bb hall hne
 replace st:=st.to bb
 obtain⟨vv5,e8,hh6⟩:=sS hall 3 8 rfl rfl
 replace st:=st.add hh6 (Rr.cl _)
 clear hh6
 clear hall hne bb
 obtain⟨b7,ad7,n7,c7,ae7,m7,d7,rfl⟩:=Rr.form (st.f 0 rfl)
 replace hF:=hF.add e8
 clear e8
 refine S.sto st hF 0 rfl (hF.at 1 rfl) (hF.at 0 rfl) ty_RRat rfl rfl rfl rfl fun w8 a st hF=>?_
 refine E.nil ?_
 refine wp_ret ?_
 refine S.ret Tryz.results80 st hF (hF.at 1 rfl) 0 rfl ty_RRat rfl hF.dfr ?_
 have bel:=st.bel
 exact⟨_,rfl,Rr.cast (st.f 0 rfl) (Rat.sub_eq_add_neg q1 q2).symm,bel⟩
theorem dMod2_any (v1 v2:Value) (q1 q2:Rat) (k j i l:Nat) (w:World) (h1:Rr w v1 q1 k) (h2:Rr w v2 q2 j) (li1:RLim q1 i) (li2:RLim q2 l) (hp:1≤k) (hp2:1≤j) (hk:k≤4000) (hj:j≤100) (hi:i≤2000) (hl:l≤100):
 Calls Tryz.prog 149 #[v1,v2] w (RrPost w (rmod q1 q2) (k+j+i+l+3)):=by
 obtain⟨b1,ad1,n1,c1,ae1,m1,d1,z1,D1,rfl,hn1,hd1,hD1,hq1,lz1,lD1⟩:=h1.shape
 have h1:Rr w (.agg #[.bool b1,.slice ad1 n1 c1,.slice ae1 m1 d1]) q1 k:=⟨_,_,_,_,_,_,_,_,_,rfl,hn1,hd1,hD1,hq1,lz1,lD1⟩
 have ha1:=hn1.abs
 have hb1:=hn1.neg
 replace hq1:=Lib.hid hq1
 obtain⟨b2,ad2,n2,c2,ae2,m2,d2,z2,D2,rfl,hn2,hd2,hD2,hq2,lz2,lD2⟩:=h2.shape
 have h2:Rr w (.agg #[.bool b2,.slice ad2 n2 c2,.slice ae2 m2 d2]) q2 j:=⟨_,_,_,_,_,_,_,_,_,rfl,hn2,hd2,hD2,hq2,lz2,lD2⟩
 have ha2:=hn2.abs
 have hb2:=hn2.neg
 replace hq2:=Lib.hid hq2
 by_cases h0:sz (Rat.num (q2))≤0
 ·have st:=St.start w
  refine E.enter (nt:=18) (L:=[(0,.agg #[.bool b1,.slice ad1 n1 c1,.slice ae1 m1 d1]),(1,.agg #[.bool b2,.slice ad2 n2 c2,.slice ae2 m2 d2])]) Tryz.func149 rfl rfl rfl (args_cons (i:=0) rfl (args_cons (i:=1) rfl args_nil)) ?_
  intro a hF
  refine wp_seq ?_
  refine E.seq ?_
  refine S.box st hF (hF.at 0 rfl) rfl rfl fun g2 w1 a st hF=>?_
  refine S.box st hF (hF.at 2 rfl) rfl rfl fun g3 w2 a st hF=>?_
  refine S.alloc st hF ty_RRat rfl rfl fun g4 w3 a st hF=>?_
  refine E.nil ?_
  refine wp_seq ?_
  refine wp_seq ?_
  refine E.seq ?_
  refine E.opv hF (r_load (hF.at 1 rfl) (ld_all ty_RRat (st.bk 1 rfl) rfl)) rfl rfl rfl rfl fun a hF=>?_
  refine S.callx st hF (r_call Tryz.func193 en193.1 en193.2 (map1 (hF.at 0 rfl))) (dSgn_any _ (q2) j _ (h2.below st.bel)) rfl rfl rfl rfl fun w4 a st hF=>?_
  refine E.opv hF (r_bin (hF.at 0 rfl) ev_c eg_scalar (bi_int (ic_leq (c:=true) (dec_tt h0)) (by simp))) rfl rfl rfl rfl fun a hF=>?_
  refine E.nil ?_
  refine wp_cond_true (hF.at 0 rfl) ?_
  refine wp_seq ?_
  refine E.seq ?_
  refine S.call st hF (r_call Tryz.func38 en38.1 en38.2 (map2 ev_c ev_c)) (dOf1b_any (0) _ (by decide) (by decide)) (fun _ _ h=>h) Rr.cl rfl rfl rfl rfl fun vv6 w5 a st hF=>?_
  obtain⟨b8,ad8,n8,c8,ae8,m8,d8,rfl⟩:=Rr.form (st.f 0 rfl)
  refine S.sto st hF 0 rfl (hF.at 4 rfl) (hF.at 0 rfl) ty_RRat rfl rfl rfl rfl fun w9 a st hF=>?_
  refine E.nil ?_
  refine wp_ret ?_
  refine S.ret Tryz.results149 st hF (hF.at 4 rfl) 0 rfl ty_RRat rfl hF.dfr ?_
  have bel:=st.bel
  exact⟨_,rfl,Rr.cast (Rr.up (st.f 0 rfl) _ (by omega)) (Rat.intCast_zero.trans (rmod_no h0)),bel⟩
 ·have st:=St.start w
  refine E.enter (nt:=18) (L:=[(0,.agg #[.bool b1,.slice ad1 n1 c1,.slice ae1 m1 d1]),(1,.agg #[.bool b2,.slice ad2 n2 c2,.slice ae2 m2 d2])]) Tryz.func149 rfl rfl rfl (args_cons (i:=0) rfl (args_cons (i:=1) rfl args_nil)) ?_
  intro a hF
  refine wp_seq ?_
  refine E.seq ?_
  refine S.box st hF (hF.at 0 rfl) rfl rfl fun g2 w1 a st hF=>?_
  refine S.box st hF (hF.at 2 rfl) rfl rfl fun g3 w2 a st hF=>?_
  refine S.alloc st hF ty_RRat rfl rfl fun g4 w3 a st hF=>?_
  refine E.nil ?_
  refine wp_seq ?_
  refine wp_seq ?_
  refine E.seq ?_
  refine E.opv hF (r_load (hF.at 1 rfl) (ld_all ty_RRat (st.bk 1 rfl) rfl)) rfl rfl rfl rfl fun a hF=>?_
  refine S.callx st hF (r_call Tryz.func193 en193.1 en193.2 (map1 (hF.at 0 rfl))) (dSgn_any _ (q2) j _ (h2.below st.bel)) rfl rfl rfl rfl fun w4 a st hF=>?_
  refine E.opv hF (r_bin (hF.at 0 rfl) ev_c eg_scalar (bi_int (ic_leq (c:=false) (dec_ff h0)) (by simp))) rfl rfl rfl rfl fun a hF=>?_
  refine E.nil ?_
  refine wp_cond_false (hF.at 0 rfl) ?_
  refine wp_skip ?_
  refine E.norm ?_
  refine wp_seq ?_
  refine E.drawn 9 mixed hF [9,10,11,12,13,14,15,16,17] [(fun _ v=>v= .agg #[.bool b1,.slice ad1 n1 c1,.slice ae1 m1 d1]),(fun _ v=>v= .agg #[.bool b2,.slice ad2 n2 c2,.slice ae2 m2 d2]),(fun _ v=>v= .agg #[.bool b1,.slice ad1 n1 c1,.slice ae1 m1 d1]),(fun _ v=>v= .agg #[.bool b2,.slice ad2 n2 c2,.slice ae2 m2 d2]),(fun w v=>Rr w v ((q1)/(q2)) ((k+j))),(fun w v=>Rz w v (Rat.floor ((q1)/(q2)))),(fun w v=>Rr w v (((Rat.floor ((q1)/(q2)):Int):Rat)) ((((i+l)+1)+1))),(fun w v=>Rr w v ((q2)*(((Rat.floor ((q1)/(q2)):Int):Rat))) ((j+(((i+l)+1)+1)))),(fun w v=>Rr w v ((q1)-((q2)*(((Rat.floor ((q1)/(q2)):Int):Rat)))) ((k+(j+(((i+l)+1)+1))+1)))] [] (by decide+kernel) (by decide+kernel) rfl rfl rfl ⟨(Mb.eq _),(Mb.eq _),(Mb.eq _),(Mb.eq _),(fun _ _ _ h hb=>h.below hb),(fun _ _ _ h hb=>h.below hb),(fun _ _ _ h hb=>h.below hb),(fun _ _ _ h hb=>h.below hb),(fun _ _ _ h hb=>h.below hb),trivial⟩ trivial ⟨?_,?_,?_,?_,?_,?_,?_,?_,?_,trivial⟩ ?_
  ·intro a' w' hF' hb hd
   exact dv0 (r_load (hF'.at 5 rfl) (ld_all ty_RRat ((st.bk 2 rfl).below hb) rfl)) rfl rfl rfl
  ·intro a' w' hF' hb hd
   exact dv0 (r_load (hF'.at 4 rfl) (ld_all ty_RRat ((st.bk 1 rfl).below hb) rfl)) rfl rfl rfl
  ·intro a' w' hF' hb hd
   exact dv0 (r_load (hF'.at 5 rfl) (ld_all ty_RRat ((st.bk 2 rfl).below hb) rfl)) rfl rfl rfl
  ·intro a' w' hF' hb hd
   exact dv0 (r_load (hF'.at 4 rfl) (ld_all ty_RRat ((st.bk 1 rfl).below hb) rfl)) rfl rfl rfl
  ·intro a' w' hF' hb hd
   have e11:=sHe hd 0 11 rfl rfl rfl rfl
   have e12:=sHe hd 1 12 rfl rfl rfl rfl
   exact dc0 (r_call Tryz.func81 en81.1 en81.2 (map2 e11 e12)) (dDiv2_any _ _ (q1) (q2) k j _ (h1.below (below_to st.bel hb)) (h2.below (below_to st.bel hb)) (by omega) (by omega) (by omega) (by omega)) rfl rfl
  ·intro a' w' hF' hb hd
   obtain⟨v13_0,e13,h13_1⟩:=sH hd 0 13 rfl rfl rfl rfl
   exact dc0 (r_call Tryz.func125 en125.1 en125.2 (map1 e13)) (dFloor_any _ _ (k+j) _ h13_1 (by omega) (by omega)) rfl rfl
  ·intro a' w' hF' hb hd
   obtain⟨v14_0,e14,h14_1⟩:=sH hd 0 14 rfl rfl rfl rfl
   exact dc0 (r_call Tryz.func124 en124.1 en124.2 (map1 e14)) (dWhole_any _ (Rat.floor ((q1)/(q2))) (((i+l)+1)+1) _ h14_1 (Lim.up (fl_lim (rlim_div li1 li2)) _ (by omega)) (by omega)) rfl rfl
  ·intro a' w' hF' hb hd
   have e10:=sHe hd 0 10 rfl rfl rfl rfl
   obtain⟨v15_0,e15,h15_1⟩:=sH hd 1 15 rfl rfl rfl rfl
   exact dc0 (r_call Tryz.func63 en63.1 en63.2 (map2 e10 e15)) (dMul2_any _ _ (q2) _ j (((i+l)+1)+1) _ (h2.below (below_to st.bel hb)) h15_1 (by omega) (by omega) (by omega) (by omega)) rfl rfl
  ·intro a' w' hF' hb hd
   have e9:=sHe hd 0 9 rfl rfl rfl rfl
   obtain⟨v16_0,e16,h16_1⟩:=sH hd 1 16 rfl rfl rfl rfl
   exact dc0 (r_call Tryz.func80 en80.1 en80.2 (map2 e9 e16)) (dSub2_any _ _ (q1) _ k (j+(((i+l)+1)+1)) _ (h1.below (below_to st.bel hb)) h16_1 (by omega) (by omega) (by omega) (by omega)) rfl rfl
  intro a w5 hF bb hall hne
  replace st:=st.to bb
  obtain⟨vv6,e17,hh7⟩:=sS hall 8 17 rfl rfl
  replace st:=st.add hh7 (Rr.cl _)
  clear hh7
  clear hall hne bb
  obtain⟨b8,ad8,n8,c8,ae8,m8,d8,rfl⟩:=Rr.form (st.f 0 rfl)
  replace hF:=hF.add e17
  clear e17
  refine S.sto st hF 0 rfl (hF.at 4 rfl) (hF.at 0 rfl) ty_RRat rfl rfl rfl rfl fun w9 a st hF=>?_
  refine E.nil ?_
  refine wp_ret ?_
  refine S.ret Tryz.results149 st hF (hF.at 4 rfl) 0 rfl ty_RRat rfl hF.dfr ?_
  have bel:=st.bel
  exact⟨_,rfl,Rr.cast (Rr.up (st.f 0 rfl) _ (by omega)) (rmod_yes h0),bel⟩
end Go.Proofs.YtnljadejcfgmaaaGreatDoor
