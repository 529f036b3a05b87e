import Derived.Test.YtpkhdajnppoinaaGreatKC40
import Derived.Test.YtpkhdajnppoinaaGreatKC42
namespace Go.Proofs.YtpkhdajnppoinaaGreat
open Go.RowKit
set_option maxRecDepth 100000
set_option linter.unusedVariables false
set_option maxHeartbeats 8000000
theorem ci44_drop {xs:List Nat} {m:Nat} (hm:m<xs.length):ci44 (List.drop m xs)=if lg xs m=44 then 0 else ci44 (List.drop (m+1) xs)+1:=by
 rw[List.drop_eq_getElem_cons hm,lg_get hm]
 rfl
def cmV (xs:List Nat):Int:=if ci44 xs<xs.length then((ci44 xs:Nat):Int) else -1
def deepB (q:Rat):Bool:=decide (3600<q.den)
def wideB (q:Rat):Bool:=decide (¬(-9223372036854775808≤q.num∧q.num≤9223372036854775807))
theorem bs_n63 (w:World):∃v w',(Instr.buildSlice 30 4 #[(0,.int .i64 0),(1,.int .i64 0),(2,.int .i64 0),(3,.int .i64 32768)]).run Tryz.prog w= .ok v w'∧Below w.heap.size w w'∧Dg w' .i64 65536 v 9223372036854775808:=by
 refine⟨.slice (some ⟨w.heap.size,0,none⟩) 4 4,w.alloc (.cells #[.int .i64 0,.int .i64 0,.int .i64 0,.int .i64 32768] 3),?_,(Below.refl _ _).alloc (Nat.le_refl _) _,?_⟩
 ·have hs:=size_run (P:=Tryz.prog) (T:=3) (n:=1) (by kernel_rfl) w
  simp[Instr.buildSlice,go_sem,hs,Instr.fill,Value.cells,newRow]
 ·have e:dg 65536 9223372036854775808=[0,0,0,32768]:=by decide+kernel
  unfold Dg
  rw[e]
  refine⟨some ⟨w.heap.size,0,none⟩,4,rfl,⟨fun i hi=>?_⟩,by simp,by unfold maxLen;omega,by simp,fun h=>by cases h⟩
  have h0:i<4:=hi
  refine⟨w.heap.size,0,rfl,by simp,?_⟩
  rw[cell_of_row _ w.heap.size (0+i) #[.int .i64 0,.int .i64 0,.int .i64 0,.int .i64 32768] 3 (0,0) (heap_alloc_new w _)]
  match i,h0 with
  |0,_=>rfl
  |1,_=>rfl
  |2,_=>rfl
  |3,_=>rfl
theorem c3_gt13 {p q:Nat}:0<c3 p q↔q<p:=by unfold c3;split <;> (try split) <;> omega
theorem c3_ge13 {p q:Nat}:0≤c3 p q↔q≤p:=by unfold c3;split <;> (try split) <;> omega
structure Rx (w:World) (e:Int) (v:Value) (q:Rat) (k:Nat):Prop where
 get:e=0→Rr w v q k
theorem Rx.below {w w':World} {e:Int} {v:Value} {q:Rat} {k:Nat} (h:Rx w e v q k) (hb:Below w.heap.size w w'):Rx w' e v q k:=⟨fun x=>(h.get x).below hb⟩
theorem Rx.keep {w w':World} {e:Int} {v:Value} {q:Rat} {k:Nat} (h:Rx w e v q k) (kp:Keep w w'):Rx w' e v q k:=⟨fun x=>(h.get x).keep kp⟩
theorem Rx.no {w:World} {e:Int} {v:Value} {q:Rat} {k:Nat} (h:e≠0):Rx w e v q k:=⟨fun x=>absurd x h⟩
def RPx (w:World) (e:Int) (v:Value) (p q:Rat) (k:Nat):Prop:=
 ∃b1 a1 n1 c1 d1 m1 e1 b2 a2 n2 c2 d2 m2 e2,v= .agg #[.bool b1,.slice a1 n1 c1,.slice d1 m1 e1,.bool b2,.slice a2 n2 c2,.slice d2 m2 e2]∧Rx w e (.agg #[.bool b1,.slice a1 n1 c1,.slice d1 m1 e1]) p k∧Rx w e (.agg #[.bool b2,.slice a2 n2 c2,.slice d2 m2 e2]) q k
theorem RPx.shape {w:World} {e:Int} {v:Value} {p q:Rat} {k:Nat} (h:RPx w e v p q k):∃b1 a1 n1 c1 d1 m1 e1 b2 a2 n2 c2 d2 m2 e2,v= .agg #[.bool b1,.slice a1 n1 c1,.slice d1 m1 e1,.bool b2,.slice a2 n2 c2,.slice d2 m2 e2]∧Rx w e (.agg #[.bool b1,.slice a1 n1 c1,.slice d1 m1 e1]) p k∧Rx w e (.agg #[.bool b2,.slice a2 n2 c2,.slice d2 m2 e2]) q k:=h
def RppPost (w:World) (xs:List Nat):Ending→World→Prop:=fun e w'=>∃v,e= .returned (.tuple #[v,.int .i64 (ppE xs)])∧RPx w' (ppE xs) v (cz (hd44 xs)) (cz (tl44 xs)) 110∧Below w.heap.size w w'
theorem rv_px {v:Value} {a b:Int} (k:a=b):Ending.returned (.tuple #[v,.int .i64 a])= .returned (.tuple #[v,.int .i64 b]):=by rw[k]
theorem cm_has {xs:List Nat}:cmV xs<0↔has44 xs=false:=by
 unfold cmV has44
 rw[decide_eq_false_iff_not]
 split <;> omega
theorem cm_yes {xs:List Nat} (h:¬cmV xs<0):has44 xs=true∧cmV xs=((ci44 xs:Nat):Int)∧ci44 xs<xs.length∧List.take (ci44 xs) xs=hd44 xs∧List.drop (ci44 xs+1) xs=tl44 xs:=by
 have c:ci44 xs<xs.length:=by
  unfold cmV at h
  split at h
  ·assumption
  ·omega
 have e:has44 xs=true:=decide_eq_true c
 exact⟨e,by unfold cmV;rw[if_pos c],c,rfl,by unfold tl44;rw[if_pos e]⟩
theorem an_doc {xs:List Nat} (h:¬ce xs≠0):(anE xs=0↔deepB (cz xs)=false∧wideB (cz xs)=false)∧(anE xs≠0→anE xs=2):=by
 have f1:wideB (cz xs)=false↔fit64 (cz xs).num =true:=by unfold wideB fit64;rw[decide_eq_false_iff_not,decide_eq_true_iff];omega
 have f2:deepB (cz xs)=false↔¬3600<(((cz xs).den :Nat):Int):=by unfold deepB;rw[decide_eq_false_iff_not];omega
 have f3:¬3600<(((cz xs).den :Nat):Int)→fit64 (((cz xs).den :Nat):Int)=true:=fun g=>fit64_t (by omega) (by omega)
 unfold anE
 rw[if_neg h]
 by_cases a:fit64 (cz xs).num =true
 ·by_cases b:3600<(((cz xs).den :Nat):Int)
  ·rw[if_neg (by rw[a];decide),if_pos (.inr b)]
   refine⟨⟨fun q=>by omega,fun q=>?_⟩,fun _=>rfl⟩
   exact absurd b (f2.1 q.1)
  ·rw[if_neg (by rw[a];decide),if_neg (by rw[f3 b];rintro(q|q);cases q;exact b q)]
   exact⟨⟨fun _=>⟨f2.2 b,f1.2 a⟩,fun _=>rfl⟩,fun q=>absurd rfl q⟩
 ·rw[if_pos (by simpa using a)]
  refine⟨⟨fun q=>by omega,fun q=>?_⟩,fun _=>rfl⟩
  exact absurd (f1.1 q.2) a
theorem an_val {xs:List Nat} (h:anE xs=0):¬ce xs≠0∧((anA xs:Int):Rat)/((anB xs:Int):Rat)=cz xs∧anA xs=(cz xs).num ∧anB xs=(((cz xs).den :Nat):Int):=by
 have c:¬ce xs≠0:=fun k=>by have:=(an_1 k).1;omega
 have x:anA xs=(cz xs).num :=by unfold anA;rw[if_pos h]
 have y:anB xs=(((cz xs).den :Nat):Int):=by unfold anB;rw[if_pos h]
 exact⟨c,by rw[x,y,num_den],x,y⟩
theorem rat_one (q:Rat):1≤((q.den:Nat):Int):=by have:=q.den_pos;omega
theorem wi_far {q:Rat} {m:Int} (hd:((q.den:Nat):Int)≤3600):wiB m q.num ((q.den:Nat):Int)=true↔farB m q=false:=by
 have f:=far_iff (m:=m) (a:=q.num) (b:=((q.den:Nat):Int)) (rat_one q)
 rw[num_den] at f
 rw[f]
 have:=rat_one q
 unfold wiB
 rw[decide_eq_true_iff]
 constructor
 ·rintro⟨_,_,a,b⟩;exact⟨a,b⟩
 ·rintro⟨a,b⟩;exact⟨this,hd,a,b⟩
theorem pl_doc {xs ys:List Nat} (h:anE xs=0) (k:anE ys=0):(plE (anA xs) (anB xs) (anA ys) (anB ys)=0↔farB 60 (cz xs)=false∧farB 180 (cz ys)=false)∧(plE (anA xs) (anB xs) (anA ys) (anB ys)≠0→plE (anA xs) (anB xs) (anA ys) (anB ys)=2):=by
 have a:=an_val h
 have b:=an_val k
 have a2:=an_bd xs
 have b2:=an_bd ys
 rw[a.2.2.1,a.2.2.2,b.2.2.1,b.2.2.2] at*
 have f:=wi_far (q:=cz xs) (m:=60) (by omega)
 have g:=wi_far (q:=cz ys) (m:=180) (by omega)
 unfold plE
 simp only [f,g]
 constructor
 ·constructor
  ·intro q;split at q
   ·assumption
   ·omega
  ·intro q;rw[if_pos q]
 ·intro q;split
  ·rename_i u;rw[if_pos u] at q;exact absurd rfl q
  ·rfl
theorem en21:(Tryz.f21.name == "runtime.NumGoroutine")=false∧Tryz.f21.body.isNone=false:=⟨by decide+kernel,by kernel_rfl⟩
theorem en23:(Tryz.f23.name == "runtime.NumGoroutine")=false∧Tryz.f23.body.isNone=false:=⟨by decide+kernel,by kernel_rfl⟩
theorem en24:(Tryz.f24.name == "runtime.NumGoroutine")=false∧Tryz.f24.body.isNone=false:=⟨by decide+kernel,by kernel_rfl⟩
theorem en7:(Tryz.f7.name == "runtime.NumGoroutine")=false∧Tryz.f7.body.isNone=false:=⟨by decide+kernel,by kernel_rfl⟩
theorem comma_any (xs:List Nat) (w:World) (h8:okb 256 xs) (hl:xs.length≤1000000000):
 Calls Tryz.prog 21 #[.string (bstr xs)] w (ValPost w (.int .i64 (cmV xs))):=by
 have st:=St.start w
 refine E.enter (nt:=15) (L:=[(0,.string (bstr xs))]) Tryz.func21 rfl rfl rfl (args_cons (i:=0) rfl args_nil) ?_
 intro a hF
 refine wp_seq ?_
 refine E.seq ?_
 refine E.opv hF (r_assign ev_c) rfl rfl rfl rfl fun a hF=>?_
 refine E.nil ?_
 refine wp_seq ?_
 refine wp_seq ?_
 refine E.seq ?_
 refine E.opv hF (r_assign ev_c) rfl rfl rfl rfl fun a hF=>?_
 refine E.nil ?_
 refine wp_block ?_
 refine E.loop (fun mq a wv=>∃(j:Nat),j≤xs.length∧j+ci44 (List.drop j xs)=ci44 xs∧Fr 15 a [(3,.int .i64 ((j:Nat):Int)),(0,.string (bstr xs))]∧St w wv [] []∧mq=xs.length-j) (xs.length-0) ?_ ?_
 ·exact⟨0,(Nat.zero_le _),(by rw[List.drop_zero];omega),Fr.pick (L':=[(3,.int .i64 0),(0,.string (bstr xs))]) hF [0,2] rfl,st.pick [] [] rfl rfl (by decide),rfl⟩
 ·rintro mq a w1 ⟨j,hj,hq,hF,st,hm⟩
  by_cases hjn:j<xs.length
  ·refine wp_seq ?_
   refine wp_seq ?_
   refine E.seq ?_
   refine E.opv hF (r_move (hF.at 0 rfl)) rfl rfl rfl rfl fun a hF=>?_
   refine E.opv hF (r_move (hF.at 2 rfl)) rfl rfl rfl rfl fun a hF=>?_
   refine E.opv hF (r_builtin (map1 (hF.at 0 rfl)) (bl_str Tryz.underlying9)) rfl rfl rfl rfl fun a hF=>?_
   refine E.opv hF (r_bin (hF.at 2 rfl) (hF.at 0 rfl) eg_scalar (bi_int (ic_lss (c:=true) (dec_tt (by omega))) (by simp))) rfl rfl rfl rfl fun a hF=>?_
   refine E.nil ?_
   refine wp_cond_true (hF.at 0 rfl) ?_
   refine wp_skip ?_
   refine E.norm ?_
   refine wp_seq ?_
   refine wp_block ?_
   refine wp_seq ?_
   refine E.seq ?_
   refine E.opv hF (r_move (hF.at 5 rfl)) rfl rfl rfl rfl fun a hF=>?_
   refine E.opv hF (r_move (hF.at 5 rfl)) rfl rfl rfl rfl fun a hF=>?_
   refine E.opv hF (r_ixv (hF.at 1 rfl) (hF.at 0 rfl) (ixs (xs:=xs) (j:=j) Tryz.underlying9 (by omega) (by omega) h8)) rfl rfl rfl rfl fun a hF=>?_
   by_cases hc2:((lg (xs) j:Nat):Int)=44
   ·first
    |(exfalso;omega)
    |(refine E.opv hF (r_bin (hF.at 0 rfl) ev_c eg_scalar (bi_int (ic_eql (c:=true) (dec_tt hc2)) (by simp))) rfl rfl rfl rfl fun a hF=>?_
      refine E.nil ?_
      refine wp_cond_true (hF.at 0 rfl) ?_
      refine wp_seq ?_
      refine E.seq ?_
      refine E.opv hF (r_move (hF.at 8 rfl)) rfl rfl rfl rfl fun a hF=>?_
      refine E.opv hF (r_assign (hF.at 0 rfl)) rfl rfl rfl rfl fun a hF=>?_
      refine E.nil ?_
      refine wp_ret ?_
      have bel:=st.bel
      refine bodyPost_ret (res_tmp Tryz.results21 (hF.at 0 rfl)) hF.dfr ?_
      refine⟨rv_int ?_,bel⟩
      have hd:=ci44_drop (xs:=xs) (m:=j) hjn
      rw[if_pos (by have:=hc2;omega)] at hd
      unfold cmV;rw[if_pos (by omega)];omega)
   ·first
    |(exfalso;omega)
    |(refine E.opv hF (r_bin (hF.at 0 rfl) ev_c eg_scalar (bi_int (ic_eql (c:=false) (dec_ff hc2)) (by simp))) rfl rfl rfl rfl fun a hF=>?_
      refine E.nil ?_
      refine wp_cond_false (hF.at 0 rfl) ?_
      refine wp_skip ?_
      refine E.blk ?_
      refine E.norm ?_
      refine E.seq ?_
      refine E.opv hF (r_move (hF.at 8 rfl)) rfl rfl rfl rfl fun a hF=>?_
      refine E.opv hF (r_bin (hF.at 0 rfl) ev_c eg_scalar (ia_add (by omega) (by omega))) rfl rfl rfl rfl fun a hF=>?_
      refine E.opset (L':=[(3,.int .i64 (((j:Nat):Int)+1)),(9,.int .i64 (((j:Nat):Int)+1)),(8,.int .i64 ((j:Nat):Int)),(13,.bool false),(12,.int .u8 ((lg (xs) j:Nat):Int)),(11,.int .i64 ((j:Nat):Int)),(10,.string (bstr xs)),(7,.bool true),(6,.int .i64 ((List.length (xs):Nat):Int)),(5,.string (bstr xs)),(4,.int .i64 ((j:Nat):Int)),(0,.string (bstr xs))]) hF (r_assign (hF.at 0 rfl)) rfl rfl rfl rfl fun a hF=>?_
      refine E.nil0 ?_
      refine E.norm ?_
      exact⟨xs.length-(j+1),by omega,⟨(j+1),(by omega),(by have hd:=ci44_drop (xs:=xs) (m:=j) hjn;rw[if_neg (by have:=hc2;omega)] at hd;omega),(by rw[show((j+1:Nat):Int)=((j:Nat):Int)+1 from by omega];exact Fr.pick (L':=[(3,.int .i64 (((j:Nat):Int)+1)),(0,.string (bstr xs))]) hF [0,11] rfl),st.pick [] [] rfl rfl (by decide),rfl⟩⟩)
  ·refine wp_seq ?_
   refine wp_seq ?_
   refine E.seq ?_
   refine E.opv hF (r_move (hF.at 0 rfl)) rfl rfl rfl rfl fun a hF=>?_
   refine E.opv hF (r_move (hF.at 2 rfl)) rfl rfl rfl rfl fun a hF=>?_
   refine E.opv hF (r_builtin (map1 (hF.at 0 rfl)) (bl_str Tryz.underlying9)) rfl rfl rfl rfl fun a hF=>?_
   refine E.opv hF (r_bin (hF.at 2 rfl) (hF.at 0 rfl) eg_scalar (bi_int (ic_lss (c:=false) (dec_ff (by omega))) (by simp))) rfl rfl rfl rfl fun a hF=>?_
   refine E.nil ?_
   refine wp_cond_false (hF.at 0 rfl) ?_
   refine wp_exit ?_
   refine E.past ?_
   refine E.past ?_
   refine E.out (id:=0) ?_
   refine E.norm ?_
   refine wp_seq ?_
   refine E.seq ?_
   refine E.opv hF (r_assign ev_c) rfl rfl rfl rfl fun a hF=>?_
   refine E.nil ?_
   refine wp_ret ?_
   have bel:=st.bel
   refine bodyPost_ret (res_tmp Tryz.results21 (hF.at 0 rfl)) hF.dfr ?_
   refine⟨rv_int ?_,bel⟩
   have ej:j=xs.length:=by omega
   rw[ej,List.drop_length] at hq
   have e0:ci44 ([]:List Nat)=0:=rfl
   unfold cmV;rw[if_neg (by omega)]
theorem deep_any (v1:Value) (q1:Rat) (k:Nat) (w:World) (h1:Rr w v1 q1 k) (hk:k≤1000):
 Calls Tryz.prog 23 #[v1] w (ValPost w (.bool (deepB q1))):=by
 have rl1:=h1.rlim
 obtain⟨b1,ad1,n1,c1,ae1,m1,d1,z1,D1,rfl,hn1,hd1,hD1,hq1,lz1,lD1⟩:=h1.shape
 have h1:Rr w (.agg #[.bool b1,.slice ad1 n1 c1,.slice ae1 m1 d1]) q1 k:=⟨_,_,_,_,_,_,_,_,_,rfl,hn1,hd1,hD1,hq1,lz1,lD1⟩
 have ha1:=hn1.abs
 have hb1:=hn1.neg
 replace hq1:=Lib.hid hq1
 have bel:Below w.heap.size w w:=Below.refl _ _
 refine E.enter (nt:=9) (L:=[(0,.agg #[.bool b1,.slice ad1 n1 c1,.slice ae1 m1 d1])]) Tryz.func23 rfl rfl rfl (args_cons (i:=0) rfl args_nil) ?_
 intro a hF
 refine wp_seq ?_
 refine E.seq ?_
 obtain⟨g1,w1,ge1,hr,bb,o1⟩:=own_box (P:=Tryz.prog) (w:=w) (cs:=[.bool b1,.slice ad1 n1 c1,.slice ae1 m1 d1]) (v:= .agg #[.bool b1,.slice ad1 n1 c1,.slice ae1 m1 d1]) 34 rfl (niB (niS (niS ni0)))
 replace ge1:w.heap.size≤g1:=by rw[←ge1];exact bel.size
 refine E.opv hF (r_box (hF.at 0 rfl) hr) rfl rfl rfl rfl fun a hF=>?_
 clear hr
 replace bel:=below_to bel bb
 clear bb
 refine E.opv hF (r_assign ev_c) rfl rfl rfl rfl fun a hF=>?_
 refine E.nil ?_
 refine wp_seq ?_
 refine E.seq ?_
 refine E.opv hF (r_load (hF.at 1 rfl) (ld_RRat (vs:=[.bool b1,.slice ad1 n1 c1,.slice ae1 m1 d1]) o1 rfl rfl)) rfl rfl rfl rfl fun a hF=>?_
 refine E.call hF (r_call Tryz.func51 en51.1 en51.2 (map1 (hF.at 0 rfl))) (dNorm_any _ (q1) k _ (h1.below bel) (by omega)) rfl rfl rfl rfl ?_
 rintro e w2 ⟨vv3,rfl,hh4,bb⟩
 refine⟨_,rfl,?_⟩
 intro a hF
 replace bel:=below_to bel bb
 clear bb
 obtain⟨b5,ad5,n5,c5,ae5,m5,d5,rfl,hn5,hd5⟩:=Rn.shape hh4
 have ha5:=hn5.abs
 refine E.opv hF (r_fieldv (hF.at 0 rfl) (fv_RRat_1 _ _ _ _ _ _ _ _)) rfl rfl rfl rfl fun a hF=>?_
 refine E.call hF (r_call Tryz.func52 en52.1 en52.2 (map1 ev_c)) (sOf_any 3600 _ (by decide)) rfl rfl rfl rfl ?_
 rintro e w6 ⟨vv7,rfl,hh8,bb⟩
 refine⟨_,rfl,?_⟩
 intro a hF
 replace hd5:=hd5.below bb
 replace bel:=below_to bel bb
 clear bb
 obtain⟨ad9,n9,c9,rfl⟩:=Dg.form hh8
 refine E.call hF (r_call Tryz.func50 en50.1 en50.2 (map2 (hF.at 1 rfl) (hF.at 0 rfl))) (scmp_any _ _ (Rat.den (q1)) 3600 _ hd5 hh8) rfl rfl rfl rfl ?_
 intro e w10 hh
 obtain⟨rfl,bb,hsz⟩:=quiet_below hh
 clear hh hsz
 refine⟨_,rfl,?_⟩
 intro a hF
 replace bel:=below_to bel bb
 clear bb
 refine E.opv hF (r_bin (hF.at 0 rfl) ev_c eg_scalar (bi_int (ic_gtr (c:=decide (0<c3 (Rat.den (q1)) (3600))) rfl) (by simp))) rfl rfl rfl rfl fun a hF=>?_
 refine E.opset (L':=[(2,.bool (decide (0<c3 (Rat.den (q1)) (3600)))),(8,.bool (decide (0<c3 (Rat.den (q1)) (3600)))),(7,.int .i64 (c3 (Rat.den (q1)) (3600))),(6,.slice ad9 n9 c9),(5,.slice ae5 m5 d5),(4,.agg #[.bool b5,.slice ad5 n5 c5,.slice ae5 m5 d5]),(3,.agg #[.bool b1,.slice ad1 n1 c1,.slice ae1 m1 d1]),(1,.pointer (some ⟨g1,0,none⟩)),(0,.agg #[.bool b1,.slice ad1 n1 c1,.slice ae1 m1 d1])]) hF (r_assign (hF.at 0 rfl)) rfl rfl rfl rfl fun a hF=>?_
 refine E.nil ?_
 refine wp_ret ?_
 refine bodyPost_ret (res_tmp Tryz.results23 (hF.at 0 rfl)) hF.dfr ?_
 refine⟨rv_bool ?_,bel⟩
 unfold deepB
 exact decide_eq_decide.2 c3_gt13
theorem cutreads_neg {w:World} {b:Bool} {v:Value} {z:Int} (h:Rz w (.agg #[.bool b,v]) z):b=true↔z<0:=by
 rw[Rz.neg h,decide_eq_true_iff]
theorem wide_any (v1:Value) (q1:Rat) (k:Nat) (w:World) (h1:Rr w v1 q1 k) (hk:k≤1000):
 Calls Tryz.prog 24 #[v1] w (ValPost w (.bool (wideB q1))):=by
 have rl1:=h1.rlim
 obtain⟨b1,ad1,n1,c1,ae1,m1,d1,z1,D1,rfl,hn1,hd1,hD1,hq1,lz1,lD1⟩:=h1.shape
 have h1:Rr w (.agg #[.bool b1,.slice ad1 n1 c1,.slice ae1 m1 d1]) q1 k:=⟨_,_,_,_,_,_,_,_,_,rfl,hn1,hd1,hD1,hq1,lz1,lD1⟩
 have ha1:=hn1.abs
 have hb1:=hn1.neg
 replace hq1:=Lib.hid hq1
 have bel:Below w.heap.size w w:=Below.refl _ _
 refine E.enter (nt:=23) (L:=[(0,.agg #[.bool b1,.slice ad1 n1 c1,.slice ae1 m1 d1])]) Tryz.func24 rfl rfl rfl (args_cons (i:=0) rfl args_nil) ?_
 intro a hF
 refine wp_seq ?_
 refine E.seq ?_
 obtain⟨g1,w1,ge1,hr,bb,o1⟩:=own_box (P:=Tryz.prog) (w:=w) (cs:=[.bool b1,.slice ad1 n1 c1,.slice ae1 m1 d1]) (v:= .agg #[.bool b1,.slice ad1 n1 c1,.slice ae1 m1 d1]) 34 rfl (niB (niS (niS ni0)))
 replace ge1:w.heap.size≤g1:=by rw[←ge1];exact bel.size
 refine E.opv hF (r_box (hF.at 0 rfl) hr) rfl rfl rfl rfl fun a hF=>?_
 clear hr
 replace bel:=below_to bel bb
 clear bb
 refine E.opv hF (r_assign ev_c) rfl rfl rfl rfl fun a hF=>?_
 refine E.nil ?_
 refine wp_seq ?_
 refine E.seq ?_
 obtain⟨vv2,w3,hr,bb,hh4⟩:=bs_n63 w1
 refine E.opv hF (r_buildSlice (pair4 ev_c ev_c ev_c ev_c) hr) rfl rfl rfl rfl fun a hF=>?_
 clear hr
 replace o1:=o1.below bb
 replace bel:=below_to bel bb
 clear bb
 obtain⟨ad5,n5,c5,rfl⟩:=Dg.form hh4
 refine E.opv hF (r_assign (hF.at 0 rfl)) rfl rfl rfl rfl fun a hF=>?_
 refine E.nil ?_
 refine wp_seq ?_
 refine E.seq ?_
 refine E.opv hF (r_load (hF.at 3 rfl) (ld_RRat (vs:=[.bool b1,.slice ad1 n1 c1,.slice ae1 m1 d1]) o1 rfl rfl)) rfl rfl rfl rfl fun a hF=>?_
 refine E.call hF (r_call Tryz.func51 en51.1 en51.2 (map1 (hF.at 0 rfl))) (dNorm_any _ (q1) k _ (h1.below bel) (by omega)) rfl rfl rfl rfl ?_
 rintro e w6 ⟨vv7,rfl,hh8,bb⟩
 refine⟨_,rfl,?_⟩
 intro a hF
 replace hh4:=hh4.below bb
 replace bel:=below_to bel bb
 clear bb
 obtain⟨b9,ad9,n9,c9,ae9,m9,d9,rfl,hn9,hd9⟩:=Rn.shape hh8
 have ha9:=hn9.abs
 obtain⟨g4,w10,ge4,hr,bb,o4⟩:=own_alloc (P:=Tryz.prog) (w:=w6) (cs:=[.bool false,.slice none 0 0,.slice none 0 0]) 34 ze_RRat rfl (niB (niS (niS ni0)))
 replace ge4:w.heap.size≤g4:=by rw[←ge4];exact bel.size
 refine E.opv hF (r_alloc hr) rfl rfl rfl rfl fun a hF=>?_
 clear hr
 replace hh8:=hh8.below bb
 replace hn9:=hn9.below bb
 replace ha9:=ha9.below bb
 replace hd9:=hd9.below bb
 replace hh4:=hh4.below bb
 replace bel:=below_to bel bb
 clear bb
 obtain⟨w11,hr,tu,on⟩:=st_RRat (vs:=[.bool b9,.slice ad9 n9 c9,.slice ae9 m9 d9]) o4 rfl rfl (ocB (ocS (ocS oc0))) (niB (niS (niS ni0))) (o:=0) rfl
 have kp:=tu.keep o4
 refine E.st hF (r_store (hF.at 0 rfl) (hF.at 1 rfl) (hr _ rfl)) rfl rfl fun a hF=>?_
 clear hr
 replace hh4:=hh4.keep kp
 replace hh8:=hh8.keep kp
 replace hn9:=hn9.keep kp
 replace ha9:=ha9.keep kp
 replace hd9:=hd9.keep kp
 replace bel:=tu.below bel ge4
 clear tu kp
 replace o4:=on
 clear on
 refine E.nil ?_
 refine wp_seq ?_
 refine wp_seq ?_
 refine E.seq ?_
 refine E.opv hF (r_field (hF.at 0 rfl) (fa_RRat_0 (p:=0) rfl)) rfl rfl rfl rfl fun a hF=>?_
 refine E.opv hF (r_field (hF.at 0 rfl) (fa_RInt_0 (p:=0) rfl)) rfl rfl rfl rfl fun a hF=>?_
 refine E.opv hF (r_load (hF.at 0 rfl) (ld_bool (v:= .bool b9) o4 rfl)) rfl rfl rfl rfl fun a hF=>?_
 refine E.nil ?_
 by_cases hc12:b9=true
 ·refine wp_cond_true (Eq.trans (hF.at 0 rfl) (congrArg Value.bool hc12)) ?_
  refine wp_seq ?_
  refine E.seq ?_
  refine E.opv hF (r_field (hF.at 3 rfl) (fa_RRat_0 (p:=0) rfl)) rfl rfl rfl rfl fun a hF=>?_
  refine E.opv hF (r_field (hF.at 0 rfl) (fa_RInt_1 (p:=1) rfl)) rfl rfl rfl rfl fun a hF=>?_
  refine E.opv hF (r_load (hF.at 0 rfl) (ld_Num (v:= .slice ad9 n9 c9) o4 rfl)) rfl rfl rfl rfl fun a hF=>?_
  refine E.opv hF (r_move (hF.at 9 rfl)) rfl rfl rfl rfl fun a hF=>?_
  refine E.call hF (r_call Tryz.func50 en50.1 en50.2 (map2 (hF.at 1 rfl) (hF.at 0 rfl))) (scmp_any _ _ (Int.natAbs (Rat.num (q1))) 9223372036854775808 _ ha9 hh4) rfl rfl rfl rfl ?_
  intro e w13 hh
  obtain⟨rfl,bb,hsz⟩:=quiet_below hh
  clear hh hsz
  refine⟨_,rfl,?_⟩
  intro a hF
  replace hh4:=hh4.below bb
  replace ha9:=ha9.below bb
  replace hd9:=hd9.below bb
  replace hh8:=hh8.below bb
  replace hn9:=hn9.below bb
  replace o4:=o4.below bb
  replace bel:=below_to bel bb
  clear bb
  by_cases hc14:0<c3 (Int.natAbs (Rat.num (q1))) (9223372036854775808)
  ·refine E.opv hF (r_bin (hF.at 0 rfl) ev_c eg_scalar (bi_int (ic_gtr (c:=true) (dec_tt hc14)) (by simp))) rfl rfl rfl rfl fun a hF=>?_
   refine E.opset (L':=[(2,.bool true),(16,.bool true),(15,.int .i64 (c3 (Int.natAbs (Rat.num (q1))) (9223372036854775808))),(14,.slice ad5 n5 c5),(13,.slice ad9 n9 c9),(12,.pointer (some ⟨g4,1,none⟩)),(11,.pointer (some ⟨g4,0,none⟩)),(10,.bool b9),(9,.pointer (some ⟨g4,0,none⟩)),(8,.pointer (some ⟨g4,0,none⟩)),(4,.pointer (some ⟨g4,0,none⟩)),(7,.agg #[.bool b9,.slice ad9 n9 c9,.slice ae9 m9 d9]),(6,.agg #[.bool b1,.slice ad1 n1 c1,.slice ae1 m1 d1]),(3,.slice ad5 n5 c5),(5,.slice ad5 n5 c5),(1,.pointer (some ⟨g1,0,none⟩)),(0,.agg #[.bool b1,.slice ad1 n1 c1,.slice ae1 m1 d1])]) hF (r_assign (hF.at 0 rfl)) rfl rfl rfl rfl fun a hF=>?_
   refine E.nil ?_
   refine wp_ret ?_
   refine bodyPost_ret (res_tmp Tryz.results24 (hF.at 0 rfl)) hF.dfr ?_
   have hneg:=cutreads_neg hn9
   refine⟨rv_bool ?_,bel⟩
   unfold wideB
   have hn0:Rat.num q1<0:=hneg.1 hc12
   have hd_:=c3_gt13 (p:=Int.natAbs (Rat.num q1)) (q:=9223372036854775808)
   first
    |exact decide_eq_decide.2 (by omega)
    |exact(decide_eq_true (by omega)).symm
    |exact(decide_eq_false (by omega)).symm
  ·refine E.opv hF (r_bin (hF.at 0 rfl) ev_c eg_scalar (bi_int (ic_gtr (c:=false) (dec_ff hc14)) (by simp))) rfl rfl rfl rfl fun a hF=>?_
   refine E.opset (L':=[(2,.bool false),(16,.bool false),(15,.int .i64 (c3 (Int.natAbs (Rat.num (q1))) (9223372036854775808))),(14,.slice ad5 n5 c5),(13,.slice ad9 n9 c9),(12,.pointer (some ⟨g4,1,none⟩)),(11,.pointer (some ⟨g4,0,none⟩)),(10,.bool b9),(9,.pointer (some ⟨g4,0,none⟩)),(8,.pointer (some ⟨g4,0,none⟩)),(4,.pointer (some ⟨g4,0,none⟩)),(7,.agg #[.bool b9,.slice ad9 n9 c9,.slice ae9 m9 d9]),(6,.agg #[.bool b1,.slice ad1 n1 c1,.slice ae1 m1 d1]),(3,.slice ad5 n5 c5),(5,.slice ad5 n5 c5),(1,.pointer (some ⟨g1,0,none⟩)),(0,.agg #[.bool b1,.slice ad1 n1 c1,.slice ae1 m1 d1])]) hF (r_assign (hF.at 0 rfl)) rfl rfl rfl rfl fun a hF=>?_
   refine E.nil ?_
   refine wp_ret ?_
   refine bodyPost_ret (res_tmp Tryz.results24 (hF.at 0 rfl)) hF.dfr ?_
   have hneg:=cutreads_neg hn9
   refine⟨rv_bool ?_,bel⟩
   unfold wideB
   have hn0:Rat.num q1<0:=hneg.1 hc12
   have hd_:=c3_gt13 (p:=Int.natAbs (Rat.num q1)) (q:=9223372036854775808)
   first
    |exact decide_eq_decide.2 (by omega)
    |exact(decide_eq_true (by omega)).symm
    |exact(decide_eq_false (by omega)).symm
 ·refine wp_cond_false (Eq.trans (hF.at 0 rfl) (congrArg Value.bool (eq_false_of_ne_true hc12))) ?_
  refine wp_skip ?_
  refine E.norm ?_
  refine wp_seq ?_
  refine E.seq ?_
  refine E.opv hF (r_field (hF.at 3 rfl) (fa_RRat_0 (p:=0) rfl)) rfl rfl rfl rfl fun a hF=>?_
  refine E.opv hF (r_field (hF.at 0 rfl) (fa_RInt_1 (p:=1) rfl)) rfl rfl rfl rfl fun a hF=>?_
  refine E.opv hF (r_load (hF.at 0 rfl) (ld_Num (v:= .slice ad9 n9 c9) o4 rfl)) rfl rfl rfl rfl fun a hF=>?_
  refine E.opv hF (r_move (hF.at 9 rfl)) rfl rfl rfl rfl fun a hF=>?_
  refine E.call hF (r_call Tryz.func50 en50.1 en50.2 (map2 (hF.at 1 rfl) (hF.at 0 rfl))) (scmp_any _ _ (Int.natAbs (Rat.num (q1))) 9223372036854775808 _ ha9 hh4) rfl rfl rfl rfl ?_
  intro e w15 hh
  obtain⟨rfl,bb,hsz⟩:=quiet_below hh
  clear hh hsz
  refine⟨_,rfl,?_⟩
  intro a hF
  replace bel:=below_to bel bb
  clear bb
  by_cases hc16:0≤c3 (Int.natAbs (Rat.num (q1))) (9223372036854775808)
  ·refine E.opv hF (r_bin (hF.at 0 rfl) ev_c eg_scalar (bi_int (ic_geq (c:=true) (dec_tt hc16)) (by simp))) rfl rfl rfl rfl fun a hF=>?_
   refine E.opset (L':=[(2,.bool true),(22,.bool true),(21,.int .i64 (c3 (Int.natAbs (Rat.num (q1))) (9223372036854775808))),(20,.slice ad5 n5 c5),(19,.slice ad9 n9 c9),(18,.pointer (some ⟨g4,1,none⟩)),(17,.pointer (some ⟨g4,0,none⟩)),(10,.bool b9),(9,.pointer (some ⟨g4,0,none⟩)),(8,.pointer (some ⟨g4,0,none⟩)),(4,.pointer (some ⟨g4,0,none⟩)),(7,.agg #[.bool b9,.slice ad9 n9 c9,.slice ae9 m9 d9]),(6,.agg #[.bool b1,.slice ad1 n1 c1,.slice ae1 m1 d1]),(3,.slice ad5 n5 c5),(5,.slice ad5 n5 c5),(1,.pointer (some ⟨g1,0,none⟩)),(0,.agg #[.bool b1,.slice ad1 n1 c1,.slice ae1 m1 d1])]) hF (r_assign (hF.at 0 rfl)) rfl rfl rfl rfl fun a hF=>?_
   refine E.nil ?_
   refine wp_ret ?_
   refine bodyPost_ret (res_tmp Tryz.results24 (hF.at 0 rfl)) hF.dfr ?_
   have hneg:=cutreads_neg hn9
   refine⟨rv_bool ?_,bel⟩
   unfold wideB
   have hn0:¬Rat.num q1<0:=fun e=>hc12 (hneg.2 e)
   have hd_:=c3_ge13 (p:=Int.natAbs (Rat.num q1)) (q:=9223372036854775808)
   first
    |exact decide_eq_decide.2 (by omega)
    |exact(decide_eq_true (by omega)).symm
    |exact(decide_eq_false (by omega)).symm
  ·refine E.opv hF (r_bin (hF.at 0 rfl) ev_c eg_scalar (bi_int (ic_geq (c:=false) (dec_ff hc16)) (by simp))) rfl rfl rfl rfl fun a hF=>?_
   refine E.opset (L':=[(2,.bool false),(22,.bool false),(21,.int .i64 (c3 (Int.natAbs (Rat.num (q1))) (9223372036854775808))),(20,.slice ad5 n5 c5),(19,.slice ad9 n9 c9),(18,.pointer (some ⟨g4,1,none⟩)),(17,.pointer (some ⟨g4,0,none⟩)),(10,.bool b9),(9,.pointer (some ⟨g4,0,none⟩)),(8,.pointer (some ⟨g4,0,none⟩)),(4,.pointer (some ⟨g4,0,none⟩)),(7,.agg #[.bool b9,.slice ad9 n9 c9,.slice ae9 m9 d9]),(6,.agg #[.bool b1,.slice ad1 n1 c1,.slice ae1 m1 d1]),(3,.slice ad5 n5 c5),(5,.slice ad5 n5 c5),(1,.pointer (some ⟨g1,0,none⟩)),(0,.agg #[.bool b1,.slice ad1 n1 c1,.slice ae1 m1 d1])]) hF (r_assign (hF.at 0 rfl)) rfl rfl rfl rfl fun a hF=>?_
   refine E.nil ?_
   refine wp_ret ?_
   refine bodyPost_ret (res_tmp Tryz.results24 (hF.at 0 rfl)) hF.dfr ?_
   have hneg:=cutreads_neg hn9
   refine⟨rv_bool ?_,bel⟩
   unfold wideB
   have hn0:¬Rat.num q1<0:=fun e=>hc12 (hneg.2 e)
   have hd_:=c3_ge13 (p:=Int.natAbs (Rat.num q1)) (q:=9223372036854775808)
   first
    |exact decide_eq_decide.2 (by omega)
    |exact(decide_eq_true (by omega)).symm
    |exact(decide_eq_false (by omega)).symm
theorem rcp_tl (xs:List Nat) (w:World) (h:List.drop (ci44 xs+1) xs=tl44 xs) (h8:okb 256 (tl44 xs)) (hl:(tl44 xs).length ≤1000000000):Calls Tryz.prog 22 #[.string (bstr (List.drop (ci44 xs+1) xs))] w (RcpPost w (tl44 xs)):=by
 rw[h];exact rcparse_any _ w h8 hl
theorem bf {b:Bool} (h:b≠true):b=false:=by simpa using h
theorem pp_doc (xs:List Nat):ppE xs=if has44 xs=false then 1 else if ce (hd44 xs)≠0 then ce (hd44 xs) else if deepB (cz (hd44 xs))=true∨wideB (cz (hd44 xs))=true then 2 else if ce (tl44 xs)≠0 then ce (tl44 xs) else if deepB (cz (tl44 xs))=true∨wideB (cz (tl44 xs))=true∨farB 60 (cz (hd44 xs))=true∨farB 180 (cz (tl44 xs))=true then 2 else 0:=by
 by_cases h:has44 xs=false
 ·rw[if_pos h,pp_1 h]
 rw[if_neg h]
 by_cases a:ce (hd44 xs)≠0
 ·rw[if_pos a]
  have e:=an_1 a
  rw[pp_2 h (by rw[e.1];exact a),e.1]
 rw[if_neg a]
 have da:=an_doc a
 by_cases b:deepB (cz (hd44 xs))=true∨wideB (cz (hd44 xs))=true
 ·rw[if_pos b]
  have ne:anE (hd44 xs)≠0:=fun k=>by
   have:=da.1.1 k
   rcases b with b|b
   ·rw[b] at this;exact absurd this.1 (by decide)
   ·rw[b] at this;exact absurd this.2 (by decide)
  rw[pp_2 h ne,da.2 ne]
 rw[if_neg b]
 have za:anE (hd44 xs)=0:=da.1.2 ⟨bf fun k=>b (.inl k),bf fun k=>b (.inr k)⟩
 have na:¬anE (hd44 xs)≠0:=fun k=>k za
 by_cases c:ce (tl44 xs)≠0
 ·rw[if_pos c]
  have e:=an_1 c
  rw[pp_3 h na (by rw[e.1];exact c),e.1]
 rw[if_neg c]
 have dc:=an_doc c
 by_cases d:deepB (cz (tl44 xs))=true∨wideB (cz (tl44 xs))=true
 ·have ne:anE (tl44 xs)≠0:=fun k=>by
   have:=dc.1.1 k
   rcases d with d|d
   ·rw[d] at this;exact absurd this.1 (by decide)
   ·rw[d] at this;exact absurd this.2 (by decide)
  rw[pp_3 h na ne,dc.2 ne,if_pos (by rcases d with d|d;exact .inl d;exact .inr (.inl d))]
 have zc:anE (tl44 xs)=0:=dc.1.2 ⟨bf fun k=>d (.inl k),bf fun k=>d (.inr k)⟩
 have nc:¬anE (tl44 xs)≠0:=fun k=>k zc
 have p:=pl_doc za zc
 rw[pp_4 h na nc]
 by_cases f:farB 60 (cz (hd44 xs))=true∨farB 180 (cz (tl44 xs))=true
 ·have ne:plE (anA (hd44 xs)) (anB (hd44 xs)) (anA (tl44 xs)) (anB (tl44 xs))≠0:=fun k=>by
   have:=p.1.1 k
   rcases f with f|f
   ·rw[f] at this;exact absurd this.1 (by decide)
   ·rw[f] at this;exact absurd this.2 (by decide)
  rw[p.2 ne,if_pos (by rcases f with f|f;exact .inr (.inr (.inl f));exact .inr (.inr (.inr f)))]
 ·rw[p.1.2 ⟨bf fun k=>f (.inl k),bf fun k=>f (.inr k)⟩,if_neg]
  rintro(k|k|k|k)
  ·exact d (.inl k)
  ·exact d (.inr k)
  ·exact f (.inl k)
  ·exact f (.inr k)
theorem rpparse_any (xs:List Nat) (w:World) (h8:okb 256 xs) (hl:xs.length≤1000000000):
 Calls Tryz.prog 7 #[.string (bstr xs)] w (RppPost w xs):=by
 have bel:Below w.heap.size w w:=Below.refl _ _
 refine E.enter (nt:=62) (L:=[(0,.string (bstr xs))]) Tryz.func7 rfl rfl rfl (args_cons (i:=0) rfl args_nil) ?_
 intro a hF
 refine wp_seq ?_
 refine E.seq ?_
 obtain⟨g2,w1,ge2,hr,bb,o2⟩:=own_alloc (P:=Tryz.prog) (w:=w) (cs:=[.bool false,.slice none 0 0,.slice none 0 0,.bool false,.slice none 0 0,.slice none 0 0]) 36 ze_RPl rfl (niB (niS (niS (niB (niS (niS ni0))))))
 replace ge2:w.heap.size≤g2:=by rw[←ge2];exact bel.size
 refine E.opv hF (r_alloc hr) rfl rfl rfl rfl fun a hF=>?_
 clear hr
 replace bel:=below_to bel bb
 clear bb
 refine E.opv hF (r_assign ev_c) rfl rfl rfl rfl fun a hF=>?_
 refine E.nil ?_
 refine wp_seq ?_
 refine E.seq ?_
 refine E.opv hF (r_move (hF.at 2 rfl)) rfl rfl rfl rfl fun a hF=>?_
 refine E.call hF (r_call Tryz.func21 en21.1 en21.2 (map1 (hF.at 0 rfl))) (comma_any (xs) _ h8 (by omega)) rfl rfl rfl rfl ?_
 rintro e w2 ⟨rfl,bb⟩
 refine⟨_,rfl,?_⟩
 intro a hF
 replace o2:=o2.below bb
 replace bel:=below_to bel bb
 clear bb
 refine E.opv hF (r_assign (hF.at 0 rfl)) rfl rfl rfl rfl fun a hF=>?_
 refine E.nil ?_
 refine wp_seq ?_
 refine wp_seq ?_
 refine E.seq ?_
 refine E.opv hF (r_move (hF.at 0 rfl)) rfl rfl rfl rfl fun a hF=>?_
 by_cases hc3:cmV (xs)<0
 ·refine E.opv hF (r_bin (hF.at 0 rfl) ev_c eg_scalar (bi_int (ic_lss (c:=true) (dec_tt hc3)) (by simp))) rfl rfl rfl rfl fun a hF=>?_
  refine E.nil ?_
  refine wp_cond_true (hF.at 0 rfl) ?_
  refine wp_seq ?_
  refine E.seq ?_
  refine E.opv hF (r_build (by simp) (bd_RPl_ _)) rfl rfl rfl rfl fun a hF=>?_
  obtain⟨w4,hr,tu,on⟩:=st_RPl (vs:=[.bool false,.slice none 0 0,.slice none 0 0,.bool false,.slice none 0 0,.slice none 0 0]) o2 rfl rfl (ocB (ocS (ocS (ocB (ocS (ocS oc0)))))) (niB (niS (niS (niB (niS (niS ni0)))))) (o:=0) rfl
  have kp:=tu.keep o2
  refine E.st hF (r_store (hF.at 7 rfl) (hF.at 0 rfl) (hr _ rfl)) rfl rfl fun a hF=>?_
  clear hr
  replace bel:=tu.below bel ge2
  clear tu kp
  replace o2:=on
  clear on
  refine E.opset (L':=[(3,.int .i64 1),(13,.agg #[.bool false,.slice none 0 0,.slice none 0 0,.bool false,.slice none 0 0,.slice none 0 0]),(12,.bool true),(11,.int .i64 (cmV (xs))),(4,.int .i64 (cmV (xs))),(10,.int .i64 (cmV (xs))),(9,.string (bstr xs)),(2,.pointer (some ⟨g2,0,none⟩)),(0,.string (bstr xs))]) hF (r_assign ev_c) rfl rfl rfl rfl fun a hF=>?_
  refine E.nil ?_
  refine wp_ret ?_
  refine bodyPost_ret (res_celltmp Tryz.results7 (hF.at 7 rfl) (ld_RPl (vs:=[.bool false,.slice none 0 0,.slice none 0 0,.bool false,.slice none 0 0,.slice none 0 0]) o2 rfl rfl) (hF.at 0 rfl)) hF.dfr ?_
  have hk:ppE xs=1:=pp_1 (cm_has.1 hc3)
  have hne:ppE xs≠0:=(by rw[hk];decide)
  exact⟨_,rv_px hk.symm,⟨_,_,_,_,_,_,_,_,_,_,_,_,_,_,rfl,Rx.no hne,Rx.no hne⟩,bel⟩
 ·refine E.opv hF (r_bin (hF.at 0 rfl) ev_c eg_scalar (bi_int (ic_lss (c:=false) (dec_ff hc3)) (by simp))) rfl rfl rfl rfl fun a hF=>?_
  refine E.nil ?_
  refine wp_cond_false (hF.at 0 rfl) ?_
  refine wp_skip ?_
  refine E.norm ?_
  refine wp_seq ?_
  have hcy:=cm_yes hc3
  have hcl:=hcy.2.2.1
  replace hF:Fr 62 a [(12,.bool false),(11,.int .i64 (cmV (xs))),(4,.int .i64 ((ci44 xs:Nat):Int)),(10,.int .i64 (cmV (xs))),(9,.string (bstr xs)),(3,.int .i64 0),(2,.pointer (some ⟨g2,0,none⟩)),(0,.string (bstr xs))]:=by rw[←hcy.2.1];exact hF
  refine E.seq ?_
  refine E.opv hF (r_move (hF.at 7 rfl)) rfl rfl rfl rfl fun a hF=>?_
  refine E.opv hF (r_move (hF.at 3 rfl)) rfl rfl rfl rfl fun a hF=>?_
  refine E.opv hF (r_slice (hF.at 1 rfl) (hF.at 0 rfl) (sls_hi (xs:=xs) (j:=ci44 xs) Tryz.underlying9 (by first|rfl|omega) (by omega))) rfl rfl rfl rfl fun a hF=>?_
  refine E.call hF (r_call Tryz.func22 en22.1 en22.2 (map1 (hF.at 0 rfl))) (rcparse_any (hd44 xs) _ (okb_hd44 h8) (by have:=hd_len44 xs;omega)) rfl rfl rfl rfl ?_
  rintro e w5 ⟨vv6,rfl,hh7,bb⟩
  refine⟨_,rfl,?_⟩
  intro a hF
  replace o2:=o2.below bb
  replace bel:=below_to bel bb
  clear bb
  obtain⟨b8,ad8,n8,c8,ae8,m8,d8,z8,D8,rfl,hn8,hd8,hD8,hq8,lz8,lD8⟩:=Rr.shape hh7
  have ha8:=hn8.abs
  refine E.opv hF (r_move (hF.at 0 rfl)) rfl rfl rfl rfl fun a hF=>?_
  refine E.opv hF (r_extract (v:= .agg #[.bool b8,.slice ad8 n8 c8,.slice ae8 m8 d8]) (hF.at 0 rfl) rfl) rfl rfl rfl rfl fun a hF=>?_
  refine E.opv hF (r_extract (v:= .int .i64 (ce (hd44 xs))) (hF.at 1 rfl) rfl) rfl rfl rfl rfl fun a hF=>?_
  obtain⟨g5,w9,ge5,hr,bb,o5⟩:=own_alloc (P:=Tryz.prog) (w:=w5) (cs:=[.bool false,.slice none 0 0,.slice none 0 0]) 34 ze_RRat rfl (niB (niS (niS ni0)))
  have ne2_5:g2≠g5:=by rw[←ge5];exact o2.ne_new
  replace ge5:w.heap.size≤g5:=by rw[←ge5];exact bel.size
  refine E.opv hF (r_alloc hr) rfl rfl rfl rfl fun a hF=>?_
  clear hr
  replace hh7:=hh7.below bb
  replace hn8:=hn8.below bb
  replace ha8:=ha8.below bb
  replace hd8:=hd8.below bb
  replace o2:=o2.below bb
  replace bel:=below_to bel bb
  clear bb
  obtain⟨w10,hr,tu,on⟩:=st_RRat (vs:=[.bool b8,.slice ad8 n8 c8,.slice ae8 m8 d8]) o5 rfl rfl (ocB (ocS (ocS oc0))) (niB (niS (niS ni0))) (o:=0) rfl
  have kp:=tu.keep o5
  refine E.st hF (r_store (hF.at 0 rfl) (hF.at 2 rfl) (hr _ rfl)) rfl rfl fun a hF=>?_
  clear hr
  replace hh7:=hh7.keep kp
  replace hn8:=hn8.keep kp
  replace ha8:=ha8.keep kp
  replace hd8:=hd8.keep kp
  replace o2:=tu.own o2 ne2_5
  replace bel:=tu.below bel ge5
  clear tu kp
  replace o5:=on
  clear on
  refine E.opv hF (r_assign (hF.at 1 rfl)) rfl rfl rfl rfl fun a hF=>?_
  refine E.nil ?_
  refine wp_seq ?_
  refine wp_seq ?_
  refine E.seq ?_
  refine E.opv hF (r_move (hF.at 0 rfl)) rfl rfl rfl rfl fun a hF=>?_
  by_cases hc11:ce (hd44 xs)≠0
  ·refine E.opv hF (r_bin (hF.at 0 rfl) ev_c eg_scalar (bi_int (ic_neq (c:=true) (dec_tt hc11)) (by simp))) rfl rfl rfl rfl fun a hF=>?_
   refine E.nil ?_
   refine wp_cond_true (hF.at 0 rfl) ?_
   refine wp_seq ?_
   refine E.seq ?_
   refine E.opv hF (r_build (by simp) (bd_RPl_ _)) rfl rfl rfl rfl fun a hF=>?_
   refine E.opv hF (r_move (hF.at 3 rfl)) rfl rfl rfl rfl fun a hF=>?_
   obtain⟨w12,hr,tu,on⟩:=st_RPl (vs:=[.bool false,.slice none 0 0,.slice none 0 0,.bool false,.slice none 0 0,.slice none 0 0]) o2 rfl rfl (ocB (ocS (ocS (ocB (ocS (ocS oc0)))))) (niB (niS (niS (niB (niS (niS ni0)))))) (o:=0) rfl
   have kp:=tu.keep o2
   refine E.st hF (r_store (hF.at 19 rfl) (hF.at 1 rfl) (hr _ rfl)) rfl rfl fun a hF=>?_
   clear hr
   replace ha8:=ha8.keep kp
   replace hd8:=hd8.keep kp
   replace hh7:=hh7.keep kp
   replace hn8:=hn8.keep kp
   replace o5:=tu.own o5 (Ne.symm ne2_5)
   replace bel:=tu.below bel ge2
   clear tu kp
   replace o2:=on
   clear on
   refine E.opset (L':=[(3,.int .i64 (ce (hd44 xs))),(24,.int .i64 (ce (hd44 xs))),(23,.agg #[.bool false,.slice none 0 0,.slice none 0 0,.bool false,.slice none 0 0,.slice none 0 0]),(22,.bool true),(21,.int .i64 (ce (hd44 xs))),(6,.int .i64 (ce (hd44 xs))),(5,.pointer (some ⟨g5,0,none⟩)),(20,.int .i64 (ce (hd44 xs))),(19,.agg #[.bool b8,.slice ad8 n8 c8,.slice ae8 m8 d8]),(14,.tuple #[.agg #[.bool b8,.slice ad8 n8 c8,.slice ae8 m8 d8],.int .i64 (ce (hd44 xs))]),(18,.tuple #[.agg #[.bool b8,.slice ad8 n8 c8,.slice ae8 m8 d8],.int .i64 (ce (hd44 xs))]),(17,.string (bstr (List.take (ci44 xs) (xs)))),(16,.int .i64 ((ci44 xs:Nat):Int)),(15,.string (bstr xs)),(12,.bool false),(11,.int .i64 (cmV (xs))),(4,.int .i64 ((ci44 xs:Nat):Int)),(10,.int .i64 (cmV (xs))),(9,.string (bstr xs)),(2,.pointer (some ⟨g2,0,none⟩)),(0,.string (bstr xs))]) hF (r_assign (hF.at 0 rfl)) rfl rfl rfl rfl fun a hF=>?_
   refine E.nil ?_
   refine wp_ret ?_
   refine bodyPost_ret (res_celltmp Tryz.results7 (hF.at 19 rfl) (ld_RPl (vs:=[.bool false,.slice none 0 0,.slice none 0 0,.bool false,.slice none 0 0,.slice none 0 0]) o2 rfl rfl) (hF.at 0 rfl)) hF.dfr ?_
   have hk:ppE xs=ce (hd44 xs):=by rw[pp_doc,if_neg (hast44 hcy.1),if_pos hc11]
   have hne:ppE xs≠0:=(by rw[hk];exact hc11)
   exact⟨_,rv_px hk.symm,⟨_,_,_,_,_,_,_,_,_,_,_,_,_,_,rfl,Rx.no hne,Rx.no hne⟩,bel⟩
  ·refine E.opv hF (r_bin (hF.at 0 rfl) ev_c eg_scalar (bi_int (ic_neq (c:=false) (dec_ff hc11)) (by simp))) rfl rfl rfl rfl fun a hF=>?_
   refine E.nil ?_
   refine wp_cond_false (hF.at 0 rfl) ?_
   refine wp_skip ?_
   refine E.norm ?_
   refine wp_seq ?_
   refine wp_seq ?_
   refine E.seq ?_
   refine E.opv hF (r_load (hF.at 3 rfl) (ld_RRat (vs:=[.bool b8,.slice ad8 n8 c8,.slice ae8 m8 d8]) o5 rfl rfl)) rfl rfl rfl rfl fun a hF=>?_
   refine E.call hF (r_call Tryz.func23 en23.1 en23.2 (map1 (hF.at 0 rfl))) (deep_any _ _ 110 _ hh7 (by omega)) rfl rfl rfl rfl ?_
   rintro e w13 ⟨rfl,bb⟩
   refine⟨_,rfl,?_⟩
   intro a hF
   replace ha8:=ha8.below bb
   replace hd8:=hd8.below bb
   replace hh7:=hh7.below bb
   replace hn8:=hn8.below bb
   replace o2:=o2.below bb
   replace o5:=o5.below bb
   replace bel:=below_to bel bb
   clear bb
   refine E.opv hF (r_move (hF.at 0 rfl)) rfl rfl rfl rfl fun a hF=>?_
   by_cases hc14:deepB (cz (hd44 xs))=true
   ·refine E.unwanted hF (wanted_by rfl rfl (Eq.trans (hF.at 0 rfl) (congrArg Value.bool hc14)) rfl) rfl rfl rfl fun a hF=>?_
    refine E.unwanted hF (wanted_by rfl rfl (Eq.trans (hF.at 1 rfl) (congrArg Value.bool hc14)) rfl) rfl rfl rfl fun a hF=>?_
    refine E.opv hF (r_pick_t (Eq.trans (hF.at 2 rfl) (congrArg Value.bool hc14)) ev_c) rfl rfl rfl rfl fun a hF=>?_
    refine E.nil ?_
    refine wp_cond_true (hF.at 0 rfl) ?_
    refine wp_seq ?_
    refine E.seq ?_
    refine E.opv hF (r_build (by simp) (bd_RPl_ _)) rfl rfl rfl rfl fun a hF=>?_
    obtain⟨w15,hr,tu,on⟩:=st_RPl (vs:=[.bool false,.slice none 0 0,.slice none 0 0,.bool false,.slice none 0 0,.slice none 0 0]) o2 rfl rfl (ocB (ocS (ocS (ocB (ocS (ocS oc0)))))) (niB (niS (niS (niB (niS (niS ni0)))))) (o:=0) rfl
    have kp:=tu.keep o2
    refine E.st hF (r_store (hF.at 24 rfl) (hF.at 0 rfl) (hr _ rfl)) rfl rfl fun a hF=>?_
    clear hr
    replace ha8:=ha8.keep kp
    replace hd8:=hd8.keep kp
    replace hh7:=hh7.keep kp
    replace hn8:=hn8.keep kp
    replace o5:=tu.own o5 (Ne.symm ne2_5)
    replace bel:=tu.below bel ge2
    clear tu kp
    replace o2:=on
    clear on
    refine E.opset (L':=[(3,.int .i64 2),(31,.agg #[.bool false,.slice none 0 0,.slice none 0 0,.bool false,.slice none 0 0,.slice none 0 0]),(30,.bool true),(29,undef),(28,undef),(27,.bool (deepB (cz (hd44 xs)))),(26,.bool (deepB (cz (hd44 xs)))),(25,.agg #[.bool b8,.slice ad8 n8 c8,.slice ae8 m8 d8]),(22,.bool false),(21,.int .i64 (ce (hd44 xs))),(6,.int .i64 (ce (hd44 xs))),(5,.pointer (some ⟨g5,0,none⟩)),(20,.int .i64 (ce (hd44 xs))),(19,.agg #[.bool b8,.slice ad8 n8 c8,.slice ae8 m8 d8]),(14,.tuple #[.agg #[.bool b8,.slice ad8 n8 c8,.slice ae8 m8 d8],.int .i64 (ce (hd44 xs))]),(18,.tuple #[.agg #[.bool b8,.slice ad8 n8 c8,.slice ae8 m8 d8],.int .i64 (ce (hd44 xs))]),(17,.string (bstr (List.take (ci44 xs) (xs)))),(16,.int .i64 ((ci44 xs:Nat):Int)),(15,.string (bstr xs)),(12,.bool false),(11,.int .i64 (cmV (xs))),(4,.int .i64 ((ci44 xs:Nat):Int)),(10,.int .i64 (cmV (xs))),(9,.string (bstr xs)),(2,.pointer (some ⟨g2,0,none⟩)),(0,.string (bstr xs))]) hF (r_assign ev_c) rfl rfl rfl rfl fun a hF=>?_
    refine E.nil ?_
    refine wp_ret ?_
    refine bodyPost_ret (res_celltmp Tryz.results7 (hF.at 24 rfl) (ld_RPl (vs:=[.bool false,.slice none 0 0,.slice none 0 0,.bool false,.slice none 0 0,.slice none 0 0]) o2 rfl rfl) (hF.at 0 rfl)) hF.dfr ?_
    have hk:ppE xs=2:=by rw[pp_doc,if_neg (hast44 hcy.1),if_neg hc11,if_pos (.inl hc14)]
    have hne:ppE xs≠0:=(by rw[hk];decide)
    exact⟨_,rv_px hk.symm,⟨_,_,_,_,_,_,_,_,_,_,_,_,_,_,rfl,Rx.no hne,Rx.no hne⟩,bel⟩
   ·refine E.opvg hF (r_load (hF.at 6 rfl) (ld_RRat (vs:=[.bool b8,.slice ad8 n8 c8,.slice ae8 m8 d8]) o5 rfl rfl)) (wanted_by rfl rfl (Eq.trans (hF.at 0 rfl) (congrArg Value.bool (eq_false_of_ne_true hc14))) rfl) rfl rfl rfl fun a hF=>?_
    refine E.callg hF (r_call Tryz.func24 en24.1 en24.2 (map1 (hF.at 0 rfl))) (wide_any _ _ 110 _ hh7 (by omega)) (wanted_by rfl rfl (Eq.trans (hF.at 1 rfl) (congrArg Value.bool (eq_false_of_ne_true hc14))) rfl) rfl rfl rfl ?_
    rintro e w16 ⟨rfl,bb⟩
    refine⟨_,rfl,?_⟩
    intro a hF
    replace ha8:=ha8.below bb
    replace hd8:=hd8.below bb
    replace hh7:=hh7.below bb
    replace hn8:=hn8.below bb
    replace o2:=o2.below bb
    replace o5:=o5.below bb
    replace bel:=below_to bel bb
    clear bb
    refine E.opv hF (r_pick_f (Eq.trans (hF.at 2 rfl) (congrArg Value.bool (eq_false_of_ne_true hc14))) (hF.at 0 rfl)) rfl rfl rfl rfl fun a hF=>?_
    refine E.nil ?_
    by_cases hc17:wideB (cz (hd44 xs))=true
    ·refine wp_cond_true (Eq.trans (hF.at 0 rfl) (congrArg Value.bool hc17)) ?_
     refine wp_seq ?_
     refine E.seq ?_
     refine E.opv hF (r_build (by simp) (bd_RPl_ _)) rfl rfl rfl rfl fun a hF=>?_
     obtain⟨w18,hr,tu,on⟩:=st_RPl (vs:=[.bool false,.slice none 0 0,.slice none 0 0,.bool false,.slice none 0 0,.slice none 0 0]) o2 rfl rfl (ocB (ocS (ocS (ocB (ocS (ocS oc0)))))) (niB (niS (niS (niB (niS (niS ni0)))))) (o:=0) rfl
     have kp:=tu.keep o2
     refine E.st hF (r_store (hF.at 24 rfl) (hF.at 0 rfl) (hr _ rfl)) rfl rfl fun a hF=>?_
     clear hr
     replace ha8:=ha8.keep kp
     replace hd8:=hd8.keep kp
     replace hh7:=hh7.keep kp
     replace hn8:=hn8.keep kp
     replace o5:=tu.own o5 (Ne.symm ne2_5)
     replace bel:=tu.below bel ge2
     clear tu kp
     replace o2:=on
     clear on
     refine E.opset (L':=[(3,.int .i64 2),(31,.agg #[.bool false,.slice none 0 0,.slice none 0 0,.bool false,.slice none 0 0,.slice none 0 0]),(30,.bool (wideB (cz (hd44 xs)))),(29,.bool (wideB (cz (hd44 xs)))),(28,.agg #[.bool b8,.slice ad8 n8 c8,.slice ae8 m8 d8]),(27,.bool (deepB (cz (hd44 xs)))),(26,.bool (deepB (cz (hd44 xs)))),(25,.agg #[.bool b8,.slice ad8 n8 c8,.slice ae8 m8 d8]),(22,.bool false),(21,.int .i64 (ce (hd44 xs))),(6,.int .i64 (ce (hd44 xs))),(5,.pointer (some ⟨g5,0,none⟩)),(20,.int .i64 (ce (hd44 xs))),(19,.agg #[.bool b8,.slice ad8 n8 c8,.slice ae8 m8 d8]),(14,.tuple #[.agg #[.bool b8,.slice ad8 n8 c8,.slice ae8 m8 d8],.int .i64 (ce (hd44 xs))]),(18,.tuple #[.agg #[.bool b8,.slice ad8 n8 c8,.slice ae8 m8 d8],.int .i64 (ce (hd44 xs))]),(17,.string (bstr (List.take (ci44 xs) (xs)))),(16,.int .i64 ((ci44 xs:Nat):Int)),(15,.string (bstr xs)),(12,.bool false),(11,.int .i64 (cmV (xs))),(4,.int .i64 ((ci44 xs:Nat):Int)),(10,.int .i64 (cmV (xs))),(9,.string (bstr xs)),(2,.pointer (some ⟨g2,0,none⟩)),(0,.string (bstr xs))]) hF (r_assign ev_c) rfl rfl rfl rfl fun a hF=>?_
     refine E.nil ?_
     refine wp_ret ?_
     refine bodyPost_ret (res_celltmp Tryz.results7 (hF.at 24 rfl) (ld_RPl (vs:=[.bool false,.slice none 0 0,.slice none 0 0,.bool false,.slice none 0 0,.slice none 0 0]) o2 rfl rfl) (hF.at 0 rfl)) hF.dfr ?_
     have hk:ppE xs=2:=by rw[pp_doc,if_neg (hast44 hcy.1),if_neg hc11,if_pos (.inr hc17)]
     have hne:ppE xs≠0:=(by rw[hk];decide)
     exact⟨_,rv_px hk.symm,⟨_,_,_,_,_,_,_,_,_,_,_,_,_,_,rfl,Rx.no hne,Rx.no hne⟩,bel⟩
    ·refine wp_cond_false (Eq.trans (hF.at 0 rfl) (congrArg Value.bool (eq_false_of_ne_true hc17))) ?_
     refine wp_skip ?_
     refine E.norm ?_
     refine wp_seq ?_
     refine E.seq ?_
     refine E.opv hF (r_move (hF.at 24 rfl)) rfl rfl rfl rfl fun a hF=>?_
     refine E.opv hF (r_move (hF.at 20 rfl)) rfl rfl rfl rfl fun a hF=>?_
     refine E.opv hF (r_bin (hF.at 0 rfl) ev_c eg_scalar (ia_add (by omega) (by omega))) rfl rfl rfl rfl fun a hF=>?_
     refine E.opv hF (r_sliceL (hF.at 2 rfl) (hF.at 0 rfl) (sls_lo (xs:=xs) (j:=ci44 xs+1) Tryz.underlying9 (by first|rfl|omega) (by omega))) rfl rfl rfl rfl fun a hF=>?_
     refine E.call hF (r_call Tryz.func22 en22.1 en22.2 (map1 (hF.at 0 rfl))) (rcp_tl xs _ hcy.2.2.2.2 (okb_tl44 h8) (by have:=tl_len44 xs;omega)) rfl rfl rfl rfl ?_
     rintro e w19 ⟨vv20,rfl,hh21,bb⟩
     refine⟨_,rfl,?_⟩
     intro a hF
     replace ha8:=ha8.below bb
     replace hd8:=hd8.below bb
     replace hh7:=hh7.below bb
     replace hn8:=hn8.below bb
     replace o2:=o2.below bb
     replace o5:=o5.below bb
     replace bel:=below_to bel bb
     clear bb
     obtain⟨b22,ad22,n22,c22,ae22,m22,d22,z22,D22,rfl,hn22,hd22,hD22,hq22,lz22,lD22⟩:=Rr.shape hh21
     have ha22:=hn22.abs
     refine E.opv hF (r_move (hF.at 0 rfl)) rfl rfl rfl rfl fun a hF=>?_
     refine E.opv hF (r_extract (v:= .agg #[.bool b22,.slice ad22 n22 c22,.slice ae22 m22 d22]) (hF.at 0 rfl) rfl) rfl rfl rfl rfl fun a hF=>?_
     refine E.opv hF (r_extract (v:= .int .i64 (ce (tl44 xs))) (hF.at 1 rfl) rfl) rfl rfl rfl rfl fun a hF=>?_
     obtain⟨g7,w23,ge7,hr,bb,o7⟩:=own_alloc (P:=Tryz.prog) (w:=w19) (cs:=[.bool false,.slice none 0 0,.slice none 0 0]) 34 ze_RRat rfl (niB (niS (niS ni0)))
     have ne2_7:g2≠g7:=by rw[←ge7];exact o2.ne_new
     have ne5_7:g5≠g7:=by rw[←ge7];exact o5.ne_new
     replace ge7:w.heap.size≤g7:=by rw[←ge7];exact bel.size
     refine E.opv hF (r_alloc hr) rfl rfl rfl rfl fun a hF=>?_
     clear hr
     replace hh21:=hh21.below bb
     replace hn22:=hn22.below bb
     replace ha22:=ha22.below bb
     replace hd22:=hd22.below bb
     replace ha8:=ha8.below bb
     replace hd8:=hd8.below bb
     replace hh7:=hh7.below bb
     replace hn8:=hn8.below bb
     replace o2:=o2.below bb
     replace o5:=o5.below bb
     replace bel:=below_to bel bb
     clear bb
     obtain⟨w24,hr,tu,on⟩:=st_RRat (vs:=[.bool b22,.slice ad22 n22 c22,.slice ae22 m22 d22]) o7 rfl rfl (ocB (ocS (ocS oc0))) (niB (niS (niS ni0))) (o:=0) rfl
     have kp:=tu.keep o7
     refine E.st hF (r_store (hF.at 0 rfl) (hF.at 2 rfl) (hr _ rfl)) rfl rfl fun a hF=>?_
     clear hr
     replace ha8:=ha8.keep kp
     replace hd8:=hd8.keep kp
     replace hh7:=hh7.keep kp
     replace hn8:=hn8.keep kp
     replace hh21:=hh21.keep kp
     replace hn22:=hn22.keep kp
     replace ha22:=ha22.keep kp
     replace hd22:=hd22.keep kp
     replace o2:=tu.own o2 ne2_7
     replace o5:=tu.own o5 ne5_7
     replace bel:=tu.below bel ge7
     clear tu kp
     replace o7:=on
     clear on
     refine E.opv hF (r_assign (hF.at 1 rfl)) rfl rfl rfl rfl fun a hF=>?_
     refine E.nil ?_
     refine wp_seq ?_
     refine wp_seq ?_
     refine E.seq ?_
     refine E.opv hF (r_move (hF.at 0 rfl)) rfl rfl rfl rfl fun a hF=>?_
     by_cases hc25:ce (tl44 xs)≠0
     ·refine E.opv hF (r_bin (hF.at 0 rfl) ev_c eg_scalar (bi_int (ic_neq (c:=true) (dec_tt hc25)) (by simp))) rfl rfl rfl rfl fun a hF=>?_
      refine E.nil ?_
      refine wp_cond_true (hF.at 0 rfl) ?_
      refine wp_seq ?_
      refine E.seq ?_
      refine E.opv hF (r_build (by simp) (bd_RPl_ _)) rfl rfl rfl rfl fun a hF=>?_
      refine E.opv hF (r_move (hF.at 3 rfl)) rfl rfl rfl rfl fun a hF=>?_
      obtain⟨w26,hr,tu,on⟩:=st_RPl (vs:=[.bool false,.slice none 0 0,.slice none 0 0,.bool false,.slice none 0 0,.slice none 0 0]) o2 rfl rfl (ocB (ocS (ocS (ocB (ocS (ocS oc0)))))) (niB (niS (niS (niB (niS (niS ni0)))))) (o:=0) rfl
      have kp:=tu.keep o2
      refine E.st hF (r_store (hF.at 37 rfl) (hF.at 1 rfl) (hr _ rfl)) rfl rfl fun a hF=>?_
      clear hr
      replace ha8:=ha8.keep kp
      replace hd8:=hd8.keep kp
      replace hh7:=hh7.keep kp
      replace hn8:=hn8.keep kp
      replace ha22:=ha22.keep kp
      replace hd22:=hd22.keep kp
      replace hh21:=hh21.keep kp
      replace hn22:=hn22.keep kp
      replace o5:=tu.own o5 (Ne.symm ne2_5)
      replace o7:=tu.own o7 (Ne.symm ne2_7)
      replace bel:=tu.below bel ge2
      clear tu kp
      replace o2:=on
      clear on
      refine E.opset (L':=[(3,.int .i64 (ce (tl44 xs))),(43,.int .i64 (ce (tl44 xs))),(42,.agg #[.bool false,.slice none 0 0,.slice none 0 0,.bool false,.slice none 0 0,.slice none 0 0]),(41,.bool true),(40,.int .i64 (ce (tl44 xs))),(8,.int .i64 (ce (tl44 xs))),(7,.pointer (some ⟨g7,0,none⟩)),(39,.int .i64 (ce (tl44 xs))),(38,.agg #[.bool b22,.slice ad22 n22 c22,.slice ae22 m22 d22]),(32,.tuple #[.agg #[.bool b22,.slice ad22 n22 c22,.slice ae22 m22 d22],.int .i64 (ce (tl44 xs))]),(37,.tuple #[.agg #[.bool b22,.slice ad22 n22 c22,.slice ae22 m22 d22],.int .i64 (ce (tl44 xs))]),(36,.string (bstr (List.drop (ci44 xs+1) (xs)))),(35,.int .i64 (((ci44 xs:Nat):Int)+1)),(34,.int .i64 ((ci44 xs:Nat):Int)),(33,.string (bstr xs)),(30,.bool (wideB (cz (hd44 xs)))),(29,.bool (wideB (cz (hd44 xs)))),(28,.agg #[.bool b8,.slice ad8 n8 c8,.slice ae8 m8 d8]),(27,.bool (deepB (cz (hd44 xs)))),(26,.bool (deepB (cz (hd44 xs)))),(25,.agg #[.bool b8,.slice ad8 n8 c8,.slice ae8 m8 d8]),(22,.bool false),(21,.int .i64 (ce (hd44 xs))),(6,.int .i64 (ce (hd44 xs))),(5,.pointer (some ⟨g5,0,none⟩)),(20,.int .i64 (ce (hd44 xs))),(19,.agg #[.bool b8,.slice ad8 n8 c8,.slice ae8 m8 d8]),(14,.tuple #[.agg #[.bool b8,.slice ad8 n8 c8,.slice ae8 m8 d8],.int .i64 (ce (hd44 xs))]),(18,.tuple #[.agg #[.bool b8,.slice ad8 n8 c8,.slice ae8 m8 d8],.int .i64 (ce (hd44 xs))]),(17,.string (bstr (List.take (ci44 xs) (xs)))),(16,.int .i64 ((ci44 xs:Nat):Int)),(15,.string (bstr xs)),(12,.bool false),(11,.int .i64 (cmV (xs))),(4,.int .i64 ((ci44 xs:Nat):Int)),(10,.int .i64 (cmV (xs))),(9,.string (bstr xs)),(2,.pointer (some ⟨g2,0,none⟩)),(0,.string (bstr xs))]) hF (r_assign (hF.at 0 rfl)) rfl rfl rfl rfl fun a hF=>?_
      refine E.nil ?_
      refine wp_ret ?_
      refine bodyPost_ret (res_celltmp Tryz.results7 (hF.at 37 rfl) (ld_RPl (vs:=[.bool false,.slice none 0 0,.slice none 0 0,.bool false,.slice none 0 0,.slice none 0 0]) o2 rfl rfl) (hF.at 0 rfl)) hF.dfr ?_
      have hk:ppE xs=ce (tl44 xs):=by rw[pp_doc,if_neg (hast44 hcy.1),if_neg hc11,if_neg (by rintro(q|q) <;> contradiction),if_pos hc25]
      have hne:ppE xs≠0:=(by rw[hk];exact hc25)
      exact⟨_,rv_px hk.symm,⟨_,_,_,_,_,_,_,_,_,_,_,_,_,_,rfl,Rx.no hne,Rx.no hne⟩,bel⟩
     ·refine E.opv hF (r_bin (hF.at 0 rfl) ev_c eg_scalar (bi_int (ic_neq (c:=false) (dec_ff hc25)) (by simp))) rfl rfl rfl rfl fun a hF=>?_
      refine E.nil ?_
      refine wp_cond_false (hF.at 0 rfl) ?_
      refine wp_skip ?_
      refine E.norm ?_
      refine wp_seq ?_
      refine wp_seq ?_
      refine E.seq ?_
      refine E.opv hF (r_load (hF.at 3 rfl) (ld_RRat (vs:=[.bool b22,.slice ad22 n22 c22,.slice ae22 m22 d22]) o7 rfl rfl)) rfl rfl rfl rfl fun a hF=>?_
      refine E.call hF (r_call Tryz.func23 en23.1 en23.2 (map1 (hF.at 0 rfl))) (deep_any _ _ 110 _ hh21 (by omega)) rfl rfl rfl rfl ?_
      rintro e w27 ⟨rfl,bb⟩
      refine⟨_,rfl,?_⟩
      intro a hF
      replace ha8:=ha8.below bb
      replace hd8:=hd8.below bb
      replace hh7:=hh7.below bb
      replace hn8:=hn8.below bb
      replace ha22:=ha22.below bb
      replace hd22:=hd22.below bb
      replace hh21:=hh21.below bb
      replace hn22:=hn22.below bb
      replace o2:=o2.below bb
      replace o5:=o5.below bb
      replace o7:=o7.below bb
      replace bel:=below_to bel bb
      clear bb
      refine E.opv hF (r_move (hF.at 0 rfl)) rfl rfl rfl rfl fun a hF=>?_
      by_cases hc28:deepB (cz (tl44 xs))=true
      ·refine E.unwanted hF (wanted_by rfl rfl (Eq.trans (hF.at 0 rfl) (congrArg Value.bool hc28)) rfl) rfl rfl rfl fun a hF=>?_
       refine E.unwanted hF (wanted_by rfl rfl (Eq.trans (hF.at 1 rfl) (congrArg Value.bool hc28)) rfl) rfl rfl rfl fun a hF=>?_
       refine E.opv hF (r_pick_t (Eq.trans (hF.at 2 rfl) (congrArg Value.bool hc28)) ev_c) rfl rfl rfl rfl fun a hF=>?_
       refine E.opv hF (r_move (hF.at 0 rfl)) rfl rfl rfl rfl fun a hF=>?_
       refine E.unwanted hF (wanted_by rfl rfl (hF.at 0 rfl) rfl) rfl rfl rfl fun a hF=>?_
       refine E.unwanted hF (wanted_by rfl rfl (hF.at 1 rfl) rfl) rfl rfl rfl fun a hF=>?_
       refine E.opv hF (r_pick_t (hF.at 2 rfl) ev_c) rfl rfl rfl rfl fun a hF=>?_
       refine E.opv hF (r_move (hF.at 0 rfl)) rfl rfl rfl rfl fun a hF=>?_
       refine E.unwanted hF (wanted_by rfl rfl (hF.at 0 rfl) rfl) rfl rfl rfl fun a hF=>?_
       refine E.unwanted hF (wanted_by rfl rfl (hF.at 1 rfl) rfl) rfl rfl rfl fun a hF=>?_
       refine E.opv hF (r_pick_t (hF.at 2 rfl) ev_c) rfl rfl rfl rfl fun a hF=>?_
       refine E.nil ?_
       refine wp_cond_true (hF.at 0 rfl) ?_
       refine wp_seq ?_
       refine E.seq ?_
       refine E.opv hF (r_build (by simp) (bd_RPl_ _)) rfl rfl rfl rfl fun a hF=>?_
       obtain⟨w29,hr,tu,on⟩:=st_RPl (vs:=[.bool false,.slice none 0 0,.slice none 0 0,.bool false,.slice none 0 0,.slice none 0 0]) o2 rfl rfl (ocB (ocS (ocS (ocB (ocS (ocS oc0)))))) (niB (niS (niS (niB (niS (niS ni0)))))) (o:=0) rfl
       have kp:=tu.keep o2
       refine E.st hF (r_store (hF.at 50 rfl) (hF.at 0 rfl) (hr _ rfl)) rfl rfl fun a hF=>?_
       clear hr
       replace ha8:=ha8.keep kp
       replace hd8:=hd8.keep kp
       replace hh7:=hh7.keep kp
       replace hn8:=hn8.keep kp
       replace ha22:=ha22.keep kp
       replace hd22:=hd22.keep kp
       replace hh21:=hh21.keep kp
       replace hn22:=hn22.keep kp
       replace o5:=tu.own o5 (Ne.symm ne2_5)
       replace o7:=tu.own o7 (Ne.symm ne2_7)
       replace bel:=tu.below bel ge2
       clear tu kp
       replace o2:=on
       clear on
       refine E.opset (L':=[(3,.int .i64 2),(58,.agg #[.bool false,.slice none 0 0,.slice none 0 0,.bool false,.slice none 0 0,.slice none 0 0]),(57,.bool true),(56,undef),(55,undef),(54,.bool true),(53,.bool true),(52,undef),(51,undef),(50,.bool true),(49,.bool true),(48,undef),(47,undef),(46,.bool (deepB (cz (tl44 xs)))),(45,.bool (deepB (cz (tl44 xs)))),(44,.agg #[.bool b22,.slice ad22 n22 c22,.slice ae22 m22 d22]),(41,.bool false),(40,.int .i64 (ce (tl44 xs))),(8,.int .i64 (ce (tl44 xs))),(7,.pointer (some ⟨g7,0,none⟩)),(39,.int .i64 (ce (tl44 xs))),(38,.agg #[.bool b22,.slice ad22 n22 c22,.slice ae22 m22 d22]),(32,.tuple #[.agg #[.bool b22,.slice ad22 n22 c22,.slice ae22 m22 d22],.int .i64 (ce (tl44 xs))]),(37,.tuple #[.agg #[.bool b22,.slice ad22 n22 c22,.slice ae22 m22 d22],.int .i64 (ce (tl44 xs))]),(36,.string (bstr (List.drop (ci44 xs+1) (xs)))),(35,.int .i64 (((ci44 xs:Nat):Int)+1)),(34,.int .i64 ((ci44 xs:Nat):Int)),(33,.string (bstr xs)),(30,.bool (wideB (cz (hd44 xs)))),(29,.bool (wideB (cz (hd44 xs)))),(28,.agg #[.bool b8,.slice ad8 n8 c8,.slice ae8 m8 d8]),(27,.bool (deepB (cz (hd44 xs)))),(26,.bool (deepB (cz (hd44 xs)))),(25,.agg #[.bool b8,.slice ad8 n8 c8,.slice ae8 m8 d8]),(22,.bool false),(21,.int .i64 (ce (hd44 xs))),(6,.int .i64 (ce (hd44 xs))),(5,.pointer (some ⟨g5,0,none⟩)),(20,.int .i64 (ce (hd44 xs))),(19,.agg #[.bool b8,.slice ad8 n8 c8,.slice ae8 m8 d8]),(14,.tuple #[.agg #[.bool b8,.slice ad8 n8 c8,.slice ae8 m8 d8],.int .i64 (ce (hd44 xs))]),(18,.tuple #[.agg #[.bool b8,.slice ad8 n8 c8,.slice ae8 m8 d8],.int .i64 (ce (hd44 xs))]),(17,.string (bstr (List.take (ci44 xs) (xs)))),(16,.int .i64 ((ci44 xs:Nat):Int)),(15,.string (bstr xs)),(12,.bool false),(11,.int .i64 (cmV (xs))),(4,.int .i64 ((ci44 xs:Nat):Int)),(10,.int .i64 (cmV (xs))),(9,.string (bstr xs)),(2,.pointer (some ⟨g2,0,none⟩)),(0,.string (bstr xs))]) hF (r_assign ev_c) rfl rfl rfl rfl fun a hF=>?_
       refine E.nil ?_
       refine wp_ret ?_
       refine bodyPost_ret (res_celltmp Tryz.results7 (hF.at 50 rfl) (ld_RPl (vs:=[.bool false,.slice none 0 0,.slice none 0 0,.bool false,.slice none 0 0,.slice none 0 0]) o2 rfl rfl) (hF.at 0 rfl)) hF.dfr ?_
       have hk:ppE xs=2:=by rw[pp_doc,if_neg (hast44 hcy.1),if_neg hc11,if_neg (by rintro(q|q) <;> contradiction),if_neg hc25,if_pos (.inl hc28)]
       have hne:ppE xs≠0:=(by rw[hk];decide)
       exact⟨_,rv_px hk.symm,⟨_,_,_,_,_,_,_,_,_,_,_,_,_,_,rfl,Rx.no hne,Rx.no hne⟩,bel⟩
      ·refine E.opvg hF (r_load (hF.at 6 rfl) (ld_RRat (vs:=[.bool b22,.slice ad22 n22 c22,.slice ae22 m22 d22]) o7 rfl rfl)) (wanted_by rfl rfl (Eq.trans (hF.at 0 rfl) (congrArg Value.bool (eq_false_of_ne_true hc28))) rfl) rfl rfl rfl fun a hF=>?_
       refine E.callg hF (r_call Tryz.func24 en24.1 en24.2 (map1 (hF.at 0 rfl))) (wide_any _ _ 110 _ hh21 (by omega)) (wanted_by rfl rfl (Eq.trans (hF.at 1 rfl) (congrArg Value.bool (eq_false_of_ne_true hc28))) rfl) rfl rfl rfl ?_
       rintro e w30 ⟨rfl,bb⟩
       refine⟨_,rfl,?_⟩
       intro a hF
       replace ha8:=ha8.below bb
       replace hd8:=hd8.below bb
       replace hh7:=hh7.below bb
       replace hn8:=hn8.below bb
       replace ha22:=ha22.below bb
       replace hd22:=hd22.below bb
       replace hh21:=hh21.below bb
       replace hn22:=hn22.below bb
       replace o2:=o2.below bb
       replace o5:=o5.below bb
       replace o7:=o7.below bb
       replace bel:=below_to bel bb
       clear bb
       refine E.opv hF (r_pick_f (Eq.trans (hF.at 2 rfl) (congrArg Value.bool (eq_false_of_ne_true hc28))) (hF.at 0 rfl)) rfl rfl rfl rfl fun a hF=>?_
       refine E.opv hF (r_move (hF.at 0 rfl)) rfl rfl rfl rfl fun a hF=>?_
       by_cases hc31:wideB (cz (tl44 xs))=true
       ·refine E.unwanted hF (wanted_by rfl rfl (Eq.trans (hF.at 0 rfl) (congrArg Value.bool hc31)) rfl) rfl rfl rfl fun a hF=>?_
        refine E.unwanted hF (wanted_by rfl rfl (Eq.trans (hF.at 1 rfl) (congrArg Value.bool hc31)) rfl) rfl rfl rfl fun a hF=>?_
        refine E.opv hF (r_pick_t (Eq.trans (hF.at 2 rfl) (congrArg Value.bool hc31)) ev_c) rfl rfl rfl rfl fun a hF=>?_
        refine E.opv hF (r_move (hF.at 0 rfl)) rfl rfl rfl rfl fun a hF=>?_
        refine E.unwanted hF (wanted_by rfl rfl (hF.at 0 rfl) rfl) rfl rfl rfl fun a hF=>?_
        refine E.unwanted hF (wanted_by rfl rfl (hF.at 1 rfl) rfl) rfl rfl rfl fun a hF=>?_
        refine E.opv hF (r_pick_t (hF.at 2 rfl) ev_c) rfl rfl rfl rfl fun a hF=>?_
        refine E.nil ?_
        refine wp_cond_true (hF.at 0 rfl) ?_
        refine wp_seq ?_
        refine E.seq ?_
        refine E.opv hF (r_build (by simp) (bd_RPl_ _)) rfl rfl rfl rfl fun a hF=>?_
        obtain⟨w32,hr,tu,on⟩:=st_RPl (vs:=[.bool false,.slice none 0 0,.slice none 0 0,.bool false,.slice none 0 0,.slice none 0 0]) o2 rfl rfl (ocB (ocS (ocS (ocB (ocS (ocS oc0)))))) (niB (niS (niS (niB (niS (niS ni0)))))) (o:=0) rfl
        have kp:=tu.keep o2
        refine E.st hF (r_store (hF.at 50 rfl) (hF.at 0 rfl) (hr _ rfl)) rfl rfl fun a hF=>?_
        clear hr
        replace ha8:=ha8.keep kp
        replace hd8:=hd8.keep kp
        replace hh7:=hh7.keep kp
        replace hn8:=hn8.keep kp
        replace ha22:=ha22.keep kp
        replace hd22:=hd22.keep kp
        replace hh21:=hh21.keep kp
        replace hn22:=hn22.keep kp
        replace o5:=tu.own o5 (Ne.symm ne2_5)
        replace o7:=tu.own o7 (Ne.symm ne2_7)
        replace bel:=tu.below bel ge2
        clear tu kp
        replace o2:=on
        clear on
        refine E.opset (L':=[(3,.int .i64 2),(58,.agg #[.bool false,.slice none 0 0,.slice none 0 0,.bool false,.slice none 0 0,.slice none 0 0]),(57,.bool true),(56,undef),(55,undef),(54,.bool true),(53,.bool true),(52,undef),(51,undef),(50,.bool (wideB (cz (tl44 xs)))),(49,.bool (wideB (cz (tl44 xs)))),(48,.bool (wideB (cz (tl44 xs)))),(47,.agg #[.bool b22,.slice ad22 n22 c22,.slice ae22 m22 d22]),(46,.bool (deepB (cz (tl44 xs)))),(45,.bool (deepB (cz (tl44 xs)))),(44,.agg #[.bool b22,.slice ad22 n22 c22,.slice ae22 m22 d22]),(41,.bool false),(40,.int .i64 (ce (tl44 xs))),(8,.int .i64 (ce (tl44 xs))),(7,.pointer (some ⟨g7,0,none⟩)),(39,.int .i64 (ce (tl44 xs))),(38,.agg #[.bool b22,.slice ad22 n22 c22,.slice ae22 m22 d22]),(32,.tuple #[.agg #[.bool b22,.slice ad22 n22 c22,.slice ae22 m22 d22],.int .i64 (ce (tl44 xs))]),(37,.tuple #[.agg #[.bool b22,.slice ad22 n22 c22,.slice ae22 m22 d22],.int .i64 (ce (tl44 xs))]),(36,.string (bstr (List.drop (ci44 xs+1) (xs)))),(35,.int .i64 (((ci44 xs:Nat):Int)+1)),(34,.int .i64 ((ci44 xs:Nat):Int)),(33,.string (bstr xs)),(30,.bool (wideB (cz (hd44 xs)))),(29,.bool (wideB (cz (hd44 xs)))),(28,.agg #[.bool b8,.slice ad8 n8 c8,.slice ae8 m8 d8]),(27,.bool (deepB (cz (hd44 xs)))),(26,.bool (deepB (cz (hd44 xs)))),(25,.agg #[.bool b8,.slice ad8 n8 c8,.slice ae8 m8 d8]),(22,.bool false),(21,.int .i64 (ce (hd44 xs))),(6,.int .i64 (ce (hd44 xs))),(5,.pointer (some ⟨g5,0,none⟩)),(20,.int .i64 (ce (hd44 xs))),(19,.agg #[.bool b8,.slice ad8 n8 c8,.slice ae8 m8 d8]),(14,.tuple #[.agg #[.bool b8,.slice ad8 n8 c8,.slice ae8 m8 d8],.int .i64 (ce (hd44 xs))]),(18,.tuple #[.agg #[.bool b8,.slice ad8 n8 c8,.slice ae8 m8 d8],.int .i64 (ce (hd44 xs))]),(17,.string (bstr (List.take (ci44 xs) (xs)))),(16,.int .i64 ((ci44 xs:Nat):Int)),(15,.string (bstr xs)),(12,.bool false),(11,.int .i64 (cmV (xs))),(4,.int .i64 ((ci44 xs:Nat):Int)),(10,.int .i64 (cmV (xs))),(9,.string (bstr xs)),(2,.pointer (some ⟨g2,0,none⟩)),(0,.string (bstr xs))]) hF (r_assign ev_c) rfl rfl rfl rfl fun a hF=>?_
        refine E.nil ?_
        refine wp_ret ?_
        refine bodyPost_ret (res_celltmp Tryz.results7 (hF.at 50 rfl) (ld_RPl (vs:=[.bool false,.slice none 0 0,.slice none 0 0,.bool false,.slice none 0 0,.slice none 0 0]) o2 rfl rfl) (hF.at 0 rfl)) hF.dfr ?_
        have hk:ppE xs=2:=by rw[pp_doc,if_neg (hast44 hcy.1),if_neg hc11,if_neg (by rintro(q|q) <;> contradiction),if_neg hc25,if_pos (.inr (.inl hc31))]
        have hne:ppE xs≠0:=(by rw[hk];decide)
        exact⟨_,rv_px hk.symm,⟨_,_,_,_,_,_,_,_,_,_,_,_,_,_,rfl,Rx.no hne,Rx.no hne⟩,bel⟩
       ·refine E.opvg hF (r_load (hF.at 28 rfl) (ld_RRat (vs:=[.bool b8,.slice ad8 n8 c8,.slice ae8 m8 d8]) o5 rfl rfl)) (wanted_by rfl rfl (Eq.trans (hF.at 0 rfl) (congrArg Value.bool (eq_false_of_ne_true hc31))) rfl) rfl rfl rfl fun a hF=>?_
        refine E.callg hF (r_call Tryz.func25 en25.1 en25.2 (map2 (hF.at 0 rfl) ev_c)) (far60_any _ _ 110 _ hh7 (by omega)) (wanted_by rfl rfl (Eq.trans (hF.at 1 rfl) (congrArg Value.bool (eq_false_of_ne_true hc31))) rfl) rfl rfl rfl ?_
        rintro e w33 ⟨rfl,bb⟩
        refine⟨_,rfl,?_⟩
        intro a hF
        replace ha8:=ha8.below bb
        replace hd8:=hd8.below bb
        replace hh7:=hh7.below bb
        replace hn8:=hn8.below bb
        replace ha22:=ha22.below bb
        replace hd22:=hd22.below bb
        replace hh21:=hh21.below bb
        replace hn22:=hn22.below bb
        replace o2:=o2.below bb
        replace o5:=o5.below bb
        replace o7:=o7.below bb
        replace bel:=below_to bel bb
        clear bb
        refine E.opv hF (r_pick_f (Eq.trans (hF.at 2 rfl) (congrArg Value.bool (eq_false_of_ne_true hc31))) (hF.at 0 rfl)) rfl rfl rfl rfl fun a hF=>?_
        refine E.opv hF (r_move (hF.at 0 rfl)) rfl rfl rfl rfl fun a hF=>?_
        by_cases hc34:farB 60 (cz (hd44 xs))=true
        ·refine E.unwanted hF (wanted_by rfl rfl (Eq.trans (hF.at 0 rfl) (congrArg Value.bool hc34)) rfl) rfl rfl rfl fun a hF=>?_
         refine E.unwanted hF (wanted_by rfl rfl (Eq.trans (hF.at 1 rfl) (congrArg Value.bool hc34)) rfl) rfl rfl rfl fun a hF=>?_
         refine E.opv hF (r_pick_t (Eq.trans (hF.at 2 rfl) (congrArg Value.bool hc34)) ev_c) rfl rfl rfl rfl fun a hF=>?_
         refine E.nil ?_
         refine wp_cond_true (hF.at 0 rfl) ?_
         refine wp_seq ?_
         refine E.seq ?_
         refine E.opv hF (r_build (by simp) (bd_RPl_ _)) rfl rfl rfl rfl fun a hF=>?_
         obtain⟨w35,hr,tu,on⟩:=st_RPl (vs:=[.bool false,.slice none 0 0,.slice none 0 0,.bool false,.slice none 0 0,.slice none 0 0]) o2 rfl rfl (ocB (ocS (ocS (ocB (ocS (ocS oc0)))))) (niB (niS (niS (niB (niS (niS ni0)))))) (o:=0) rfl
         have kp:=tu.keep o2
         refine E.st hF (r_store (hF.at 50 rfl) (hF.at 0 rfl) (hr _ rfl)) rfl rfl fun a hF=>?_
         clear hr
         replace ha8:=ha8.keep kp
         replace hd8:=hd8.keep kp
         replace hh7:=hh7.keep kp
         replace hn8:=hn8.keep kp
         replace ha22:=ha22.keep kp
         replace hd22:=hd22.keep kp
         replace hh21:=hh21.keep kp
         replace hn22:=hn22.keep kp
         replace o5:=tu.own o5 (Ne.symm ne2_5)
         replace o7:=tu.own o7 (Ne.symm ne2_7)
         replace bel:=tu.below bel ge2
         clear tu kp
         replace o2:=on
         clear on
         refine E.opset (L':=[(3,.int .i64 2),(58,.agg #[.bool false,.slice none 0 0,.slice none 0 0,.bool false,.slice none 0 0,.slice none 0 0]),(57,.bool true),(56,undef),(55,undef),(54,.bool (farB 60 (cz (hd44 xs)))),(53,.bool (farB 60 (cz (hd44 xs)))),(52,.bool (farB 60 (cz (hd44 xs)))),(51,.agg #[.bool b8,.slice ad8 n8 c8,.slice ae8 m8 d8]),(50,.bool (wideB (cz (tl44 xs)))),(49,.bool (wideB (cz (tl44 xs)))),(48,.bool (wideB (cz (tl44 xs)))),(47,.agg #[.bool b22,.slice ad22 n22 c22,.slice ae22 m22 d22]),(46,.bool (deepB (cz (tl44 xs)))),(45,.bool (deepB (cz (tl44 xs)))),(44,.agg #[.bool b22,.slice ad22 n22 c22,.slice ae22 m22 d22]),(41,.bool false),(40,.int .i64 (ce (tl44 xs))),(8,.int .i64 (ce (tl44 xs))),(7,.pointer (some ⟨g7,0,none⟩)),(39,.int .i64 (ce (tl44 xs))),(38,.agg #[.bool b22,.slice ad22 n22 c22,.slice ae22 m22 d22]),(32,.tuple #[.agg #[.bool b22,.slice ad22 n22 c22,.slice ae22 m22 d22],.int .i64 (ce (tl44 xs))]),(37,.tuple #[.agg #[.bool b22,.slice ad22 n22 c22,.slice ae22 m22 d22],.int .i64 (ce (tl44 xs))]),(36,.string (bstr (List.drop (ci44 xs+1) (xs)))),(35,.int .i64 (((ci44 xs:Nat):Int)+1)),(34,.int .i64 ((ci44 xs:Nat):Int)),(33,.string (bstr xs)),(30,.bool (wideB (cz (hd44 xs)))),(29,.bool (wideB (cz (hd44 xs)))),(28,.agg #[.bool b8,.slice ad8 n8 c8,.slice ae8 m8 d8]),(27,.bool (deepB (cz (hd44 xs)))),(26,.bool (deepB (cz (hd44 xs)))),(25,.agg #[.bool b8,.slice ad8 n8 c8,.slice ae8 m8 d8]),(22,.bool false),(21,.int .i64 (ce (hd44 xs))),(6,.int .i64 (ce (hd44 xs))),(5,.pointer (some ⟨g5,0,none⟩)),(20,.int .i64 (ce (hd44 xs))),(19,.agg #[.bool b8,.slice ad8 n8 c8,.slice ae8 m8 d8]),(14,.tuple #[.agg #[.bool b8,.slice ad8 n8 c8,.slice ae8 m8 d8],.int .i64 (ce (hd44 xs))]),(18,.tuple #[.agg #[.bool b8,.slice ad8 n8 c8,.slice ae8 m8 d8],.int .i64 (ce (hd44 xs))]),(17,.string (bstr (List.take (ci44 xs) (xs)))),(16,.int .i64 ((ci44 xs:Nat):Int)),(15,.string (bstr xs)),(12,.bool false),(11,.int .i64 (cmV (xs))),(4,.int .i64 ((ci44 xs:Nat):Int)),(10,.int .i64 (cmV (xs))),(9,.string (bstr xs)),(2,.pointer (some ⟨g2,0,none⟩)),(0,.string (bstr xs))]) hF (r_assign ev_c) rfl rfl rfl rfl fun a hF=>?_
         refine E.nil ?_
         refine wp_ret ?_
         refine bodyPost_ret (res_celltmp Tryz.results7 (hF.at 50 rfl) (ld_RPl (vs:=[.bool false,.slice none 0 0,.slice none 0 0,.bool false,.slice none 0 0,.slice none 0 0]) o2 rfl rfl) (hF.at 0 rfl)) hF.dfr ?_
         have hk:ppE xs=2:=by rw[pp_doc,if_neg (hast44 hcy.1),if_neg hc11,if_neg (by rintro(q|q) <;> contradiction),if_neg hc25,if_pos (.inr (.inr (.inl hc34)))]
         have hne:ppE xs≠0:=(by rw[hk];decide)
         exact⟨_,rv_px hk.symm,⟨_,_,_,_,_,_,_,_,_,_,_,_,_,_,rfl,Rx.no hne,Rx.no hne⟩,bel⟩
        ·refine E.opvg hF (r_load (hF.at 14 rfl) (ld_RRat (vs:=[.bool b22,.slice ad22 n22 c22,.slice ae22 m22 d22]) o7 rfl rfl)) (wanted_by rfl rfl (Eq.trans (hF.at 0 rfl) (congrArg Value.bool (eq_false_of_ne_true hc34))) rfl) rfl rfl rfl fun a hF=>?_
         refine E.callg hF (r_call Tryz.func25 en25.1 en25.2 (map2 (hF.at 0 rfl) ev_c)) (far180_any _ _ 110 _ hh21 (by omega)) (wanted_by rfl rfl (Eq.trans (hF.at 1 rfl) (congrArg Value.bool (eq_false_of_ne_true hc34))) rfl) rfl rfl rfl ?_
         rintro e w36 ⟨rfl,bb⟩
         refine⟨_,rfl,?_⟩
         intro a hF
         replace ha8:=ha8.below bb
         replace hd8:=hd8.below bb
         replace hh7:=hh7.below bb
         replace hn8:=hn8.below bb
         replace ha22:=ha22.below bb
         replace hd22:=hd22.below bb
         replace hh21:=hh21.below bb
         replace hn22:=hn22.below bb
         replace o2:=o2.below bb
         replace o5:=o5.below bb
         replace o7:=o7.below bb
         replace bel:=below_to bel bb
         clear bb
         refine E.opv hF (r_pick_f (Eq.trans (hF.at 2 rfl) (congrArg Value.bool (eq_false_of_ne_true hc34))) (hF.at 0 rfl)) rfl rfl rfl rfl fun a hF=>?_
         refine E.nil ?_
         by_cases hc37:farB 180 (cz (tl44 xs))=true
         ·refine wp_cond_true (Eq.trans (hF.at 0 rfl) (congrArg Value.bool hc37)) ?_
          refine wp_seq ?_
          refine E.seq ?_
          refine E.opv hF (r_build (by simp) (bd_RPl_ _)) rfl rfl rfl rfl fun a hF=>?_
          obtain⟨w38,hr,tu,on⟩:=st_RPl (vs:=[.bool false,.slice none 0 0,.slice none 0 0,.bool false,.slice none 0 0,.slice none 0 0]) o2 rfl rfl (ocB (ocS (ocS (ocB (ocS (ocS oc0)))))) (niB (niS (niS (niB (niS (niS ni0)))))) (o:=0) rfl
          have kp:=tu.keep o2
          refine E.st hF (r_store (hF.at 50 rfl) (hF.at 0 rfl) (hr _ rfl)) rfl rfl fun a hF=>?_
          clear hr
          replace ha8:=ha8.keep kp
          replace hd8:=hd8.keep kp
          replace hh7:=hh7.keep kp
          replace hn8:=hn8.keep kp
          replace ha22:=ha22.keep kp
          replace hd22:=hd22.keep kp
          replace hh21:=hh21.keep kp
          replace hn22:=hn22.keep kp
          replace o5:=tu.own o5 (Ne.symm ne2_5)
          replace o7:=tu.own o7 (Ne.symm ne2_7)
          replace bel:=tu.below bel ge2
          clear tu kp
          replace o2:=on
          clear on
          refine E.opset (L':=[(3,.int .i64 2),(58,.agg #[.bool false,.slice none 0 0,.slice none 0 0,.bool false,.slice none 0 0,.slice none 0 0]),(57,.bool (farB 180 (cz (tl44 xs)))),(56,.bool (farB 180 (cz (tl44 xs)))),(55,.agg #[.bool b22,.slice ad22 n22 c22,.slice ae22 m22 d22]),(54,.bool (farB 60 (cz (hd44 xs)))),(53,.bool (farB 60 (cz (hd44 xs)))),(52,.bool (farB 60 (cz (hd44 xs)))),(51,.agg #[.bool b8,.slice ad8 n8 c8,.slice ae8 m8 d8]),(50,.bool (wideB (cz (tl44 xs)))),(49,.bool (wideB (cz (tl44 xs)))),(48,.bool (wideB (cz (tl44 xs)))),(47,.agg #[.bool b22,.slice ad22 n22 c22,.slice ae22 m22 d22]),(46,.bool (deepB (cz (tl44 xs)))),(45,.bool (deepB (cz (tl44 xs)))),(44,.agg #[.bool b22,.slice ad22 n22 c22,.slice ae22 m22 d22]),(41,.bool false),(40,.int .i64 (ce (tl44 xs))),(8,.int .i64 (ce (tl44 xs))),(7,.pointer (some ⟨g7,0,none⟩)),(39,.int .i64 (ce (tl44 xs))),(38,.agg #[.bool b22,.slice ad22 n22 c22,.slice ae22 m22 d22]),(32,.tuple #[.agg #[.bool b22,.slice ad22 n22 c22,.slice ae22 m22 d22],.int .i64 (ce (tl44 xs))]),(37,.tuple #[.agg #[.bool b22,.slice ad22 n22 c22,.slice ae22 m22 d22],.int .i64 (ce (tl44 xs))]),(36,.string (bstr (List.drop (ci44 xs+1) (xs)))),(35,.int .i64 (((ci44 xs:Nat):Int)+1)),(34,.int .i64 ((ci44 xs:Nat):Int)),(33,.string (bstr xs)),(30,.bool (wideB (cz (hd44 xs)))),(29,.bool (wideB (cz (hd44 xs)))),(28,.agg #[.bool b8,.slice ad8 n8 c8,.slice ae8 m8 d8]),(27,.bool (deepB (cz (hd44 xs)))),(26,.bool (deepB (cz (hd44 xs)))),(25,.agg #[.bool b8,.slice ad8 n8 c8,.slice ae8 m8 d8]),(22,.bool false),(21,.int .i64 (ce (hd44 xs))),(6,.int .i64 (ce (hd44 xs))),(5,.pointer (some ⟨g5,0,none⟩)),(20,.int .i64 (ce (hd44 xs))),(19,.agg #[.bool b8,.slice ad8 n8 c8,.slice ae8 m8 d8]),(14,.tuple #[.agg #[.bool b8,.slice ad8 n8 c8,.slice ae8 m8 d8],.int .i64 (ce (hd44 xs))]),(18,.tuple #[.agg #[.bool b8,.slice ad8 n8 c8,.slice ae8 m8 d8],.int .i64 (ce (hd44 xs))]),(17,.string (bstr (List.take (ci44 xs) (xs)))),(16,.int .i64 ((ci44 xs:Nat):Int)),(15,.string (bstr xs)),(12,.bool false),(11,.int .i64 (cmV (xs))),(4,.int .i64 ((ci44 xs:Nat):Int)),(10,.int .i64 (cmV (xs))),(9,.string (bstr xs)),(2,.pointer (some ⟨g2,0,none⟩)),(0,.string (bstr xs))]) hF (r_assign ev_c) rfl rfl rfl rfl fun a hF=>?_
          refine E.nil ?_
          refine wp_ret ?_
          refine bodyPost_ret (res_celltmp Tryz.results7 (hF.at 50 rfl) (ld_RPl (vs:=[.bool false,.slice none 0 0,.slice none 0 0,.bool false,.slice none 0 0,.slice none 0 0]) o2 rfl rfl) (hF.at 0 rfl)) hF.dfr ?_
          have hk:ppE xs=2:=by rw[pp_doc,if_neg (hast44 hcy.1),if_neg hc11,if_neg (by rintro(q|q) <;> contradiction),if_neg hc25,if_pos (.inr (.inr (.inr hc37)))]
          have hne:ppE xs≠0:=(by rw[hk];decide)
          exact⟨_,rv_px hk.symm,⟨_,_,_,_,_,_,_,_,_,_,_,_,_,_,rfl,Rx.no hne,Rx.no hne⟩,bel⟩
         ·refine wp_cond_false (Eq.trans (hF.at 0 rfl) (congrArg Value.bool (eq_false_of_ne_true hc37))) ?_
          refine wp_skip ?_
          refine E.norm ?_
          refine wp_seq ?_
          refine E.seq ?_
          refine E.opv hF (r_load (hF.at 35 rfl) (ld_RRat (vs:=[.bool b8,.slice ad8 n8 c8,.slice ae8 m8 d8]) o5 rfl rfl)) rfl rfl rfl rfl fun a hF=>?_
          refine E.opv hF (r_load (hF.at 18 rfl) (ld_RRat (vs:=[.bool b22,.slice ad22 n22 c22,.slice ae22 m22 d22]) o7 rfl rfl)) rfl rfl rfl rfl fun a hF=>?_
          refine E.opv hF (r_build (pair2 (hF.at 1 rfl) (hF.at 0 rfl)) (bd_RPl_01 _ _ _ _ _ _ _ _ _ _ _ _ _ _ _)) rfl rfl rfl rfl fun a hF=>?_
          obtain⟨w39,hr,tu,on⟩:=st_RPl (vs:=[.bool b8,.slice ad8 n8 c8,.slice ae8 m8 d8,.bool b22,.slice ad22 n22 c22,.slice ae22 m22 d22]) o2 rfl rfl (ocB (ocS (ocS (ocB (ocS (ocS oc0)))))) (niB (niS (niS (niB (niS (niS ni0)))))) (o:=0) rfl
          have kp:=tu.keep o2
          refine E.st hF (r_store (hF.at 52 rfl) (hF.at 0 rfl) (hr _ rfl)) rfl rfl fun a hF=>?_
          clear hr
          replace hh7:=hh7.keep kp
          replace hn8:=hn8.keep kp
          replace ha8:=ha8.keep kp
          replace hd8:=hd8.keep kp
          replace hh21:=hh21.keep kp
          replace hn22:=hn22.keep kp
          replace ha22:=ha22.keep kp
          replace hd22:=hd22.keep kp
          replace bel:=tu.below bel ge2
          clear tu kp
          replace o2:=on
          clear on
          refine E.opset (L':=[(3,.int .i64 0),(61,.agg #[.bool b8,.slice ad8 n8 c8,.slice ae8 m8 d8,.bool b22,.slice ad22 n22 c22,.slice ae22 m22 d22]),(60,.agg #[.bool b22,.slice ad22 n22 c22,.slice ae22 m22 d22]),(59,.agg #[.bool b8,.slice ad8 n8 c8,.slice ae8 m8 d8]),(57,.bool (farB 180 (cz (tl44 xs)))),(56,.bool (farB 180 (cz (tl44 xs)))),(55,.agg #[.bool b22,.slice ad22 n22 c22,.slice ae22 m22 d22]),(54,.bool (farB 60 (cz (hd44 xs)))),(53,.bool (farB 60 (cz (hd44 xs)))),(52,.bool (farB 60 (cz (hd44 xs)))),(51,.agg #[.bool b8,.slice ad8 n8 c8,.slice ae8 m8 d8]),(50,.bool (wideB (cz (tl44 xs)))),(49,.bool (wideB (cz (tl44 xs)))),(48,.bool (wideB (cz (tl44 xs)))),(47,.agg #[.bool b22,.slice ad22 n22 c22,.slice ae22 m22 d22]),(46,.bool (deepB (cz (tl44 xs)))),(45,.bool (deepB (cz (tl44 xs)))),(44,.agg #[.bool b22,.slice ad22 n22 c22,.slice ae22 m22 d22]),(41,.bool false),(40,.int .i64 (ce (tl44 xs))),(8,.int .i64 (ce (tl44 xs))),(7,.pointer (some ⟨g7,0,none⟩)),(39,.int .i64 (ce (tl44 xs))),(38,.agg #[.bool b22,.slice ad22 n22 c22,.slice ae22 m22 d22]),(32,.tuple #[.agg #[.bool b22,.slice ad22 n22 c22,.slice ae22 m22 d22],.int .i64 (ce (tl44 xs))]),(37,.tuple #[.agg #[.bool b22,.slice ad22 n22 c22,.slice ae22 m22 d22],.int .i64 (ce (tl44 xs))]),(36,.string (bstr (List.drop (ci44 xs+1) (xs)))),(35,.int .i64 (((ci44 xs:Nat):Int)+1)),(34,.int .i64 ((ci44 xs:Nat):Int)),(33,.string (bstr xs)),(30,.bool (wideB (cz (hd44 xs)))),(29,.bool (wideB (cz (hd44 xs)))),(28,.agg #[.bool b8,.slice ad8 n8 c8,.slice ae8 m8 d8]),(27,.bool (deepB (cz (hd44 xs)))),(26,.bool (deepB (cz (hd44 xs)))),(25,.agg #[.bool b8,.slice ad8 n8 c8,.slice ae8 m8 d8]),(22,.bool false),(21,.int .i64 (ce (hd44 xs))),(6,.int .i64 (ce (hd44 xs))),(5,.pointer (some ⟨g5,0,none⟩)),(20,.int .i64 (ce (hd44 xs))),(19,.agg #[.bool b8,.slice ad8 n8 c8,.slice ae8 m8 d8]),(14,.tuple #[.agg #[.bool b8,.slice ad8 n8 c8,.slice ae8 m8 d8],.int .i64 (ce (hd44 xs))]),(18,.tuple #[.agg #[.bool b8,.slice ad8 n8 c8,.slice ae8 m8 d8],.int .i64 (ce (hd44 xs))]),(17,.string (bstr (List.take (ci44 xs) (xs)))),(16,.int .i64 ((ci44 xs:Nat):Int)),(15,.string (bstr xs)),(12,.bool false),(11,.int .i64 (cmV (xs))),(4,.int .i64 ((ci44 xs:Nat):Int)),(10,.int .i64 (cmV (xs))),(9,.string (bstr xs)),(2,.pointer (some ⟨g2,0,none⟩)),(0,.string (bstr xs))]) hF (r_assign ev_c) rfl rfl rfl rfl fun a hF=>?_
          refine E.nil ?_
          refine wp_ret ?_
          refine bodyPost_ret (res_celltmp Tryz.results7 (hF.at 52 rfl) (ld_RPl (vs:=[.bool b8,.slice ad8 n8 c8,.slice ae8 m8 d8,.bool b22,.slice ad22 n22 c22,.slice ae22 m22 d22]) o2 rfl rfl) (hF.at 0 rfl)) hF.dfr ?_
          have hk:ppE xs=0:=by rw[pp_doc,if_neg (hast44 hcy.1),if_neg hc11,if_neg (by rintro(q|q) <;> contradiction),if_neg hc25,if_neg (by rintro(q|q|q|q) <;> contradiction)]
          exact⟨_,rv_px hk.symm,⟨_,_,_,_,_,_,_,_,_,_,_,_,_,_,rfl,⟨fun _=>hh7⟩,⟨fun _=>hh21⟩⟩,bel⟩
end Go.Proofs.YtpkhdajnppoinaaGreat
