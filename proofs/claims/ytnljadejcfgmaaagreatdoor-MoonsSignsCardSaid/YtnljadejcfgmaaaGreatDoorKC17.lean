import Derived.Test.YtnljadejcfgmaaaGreatDoorKC16
namespace Go.Proofs.YtnljadejcfgmaaaGreatDoor
open Go.RowKit
set_option maxRecDepth 100000
set_option linter.unusedVariables false
set_option maxHeartbeats 8000000
section
section
theorem Rz.nat {w:World} {s:Value} {d:Nat} (h:Dg w .i64 65536 s d):Rz w (.agg #[.bool false,s]) ((d:Nat):Int):=by
 refine⟨s,?_,by simpa using h⟩
 rw[decide_eq_false (by omega)]
theorem lim_cast {N k:Nat} (h:Lim N k):Lim ((N:Nat):Int).natAbs k:=by rw[Int.natAbs_natCast];exact h
theorem Rz.zero (w:World):Rz w (.agg #[.bool false,.slice none 0 0]) 0:=⟨_,rfl,Dg.zero _ _ _ _ (by unfold maxLen;omega) (fun _=>rfl)⟩
theorem Rz.neg {w:World} {b:Bool} {a:Value} {z:Int} (h:Rz w (.agg #[.bool b,a]) z):b=decide (z<0):=by
 obtain⟨a',h1,h2⟩:=h
 injection h1 with h1
 simp only [Array.mk.injEq,List.cons.injEq,and_true,Value.bool.injEq] at h1
 exact h1.1
def Rr (w:World) (v:Value) (q:Rat) (k:Nat):Prop:=
 ∃b ad n c ae m d z D,v= .agg #[.bool b,.slice ad n c,.slice ae m d]∧Rz w (.agg #[.bool b,.slice ad n c]) z∧Dg w .i64 65536 (.slice ae m d) D∧0<D∧q=mkRat z D∧Lim z.natAbs k∧Lim D k
def RrPost (w:World) (q:Rat) (k:Nat) (e:Ending) (w':World):Prop:=∃v,e= .returned v∧Rr w' v q k∧Below w.heap.size w w'
theorem Rr.shape {w:World} {v:Value} {q:Rat} {k:Nat} (h:Rr w v q k):∃b ad n c ae m d z D,v= .agg #[.bool b,.slice ad n c,.slice ae m d]∧Rz w (.agg #[.bool b,.slice ad n c]) z∧Dg w .i64 65536 (.slice ae m d) D∧0<D∧q=mkRat z D∧Lim z.natAbs k∧Lim D k:=h
theorem Rr.form {w:World} {v:Value} {q:Rat} {k:Nat} (h:Rr w v q k):∃b ad n c ae m d,v= .agg #[.bool b,.slice ad n c,.slice ae m d]:=by
 obtain⟨b,ad,n,c,ae,m,d,z,D,h1,_⟩:=h
 exact⟨b,ad,n,c,ae,m,d,h1⟩
theorem Rr.below {w w':World} {v:Value} {q:Rat} {k:Nat} (h:Rr w v q k) (hb:Below w.heap.size w w'):Rr w' v q k:=by
 obtain⟨b,ad,n,c,ae,m,d,z,D,h1,h2,h3,h4⟩:=h
 exact⟨b,ad,n,c,ae,m,d,z,D,h1,h2.below hb,h3.below hb,h4⟩
theorem Rr.keep {w w':World} {v:Value} {q:Rat} {k:Nat} (h:Rr w v q k) (kp:Keep w w'):Rr w' v q k:=by
 obtain⟨b,ad,n,c,ae,m,d,z,D,h1,h2,h3,h4⟩:=h
 exact⟨b,ad,n,c,ae,m,d,z,D,h1,h2.keep kp,h3.keep kp,h4⟩
theorem Rr.mk {w:World} {b:Bool} {ad ae:Option Addr} {n c m d:Nat} {z:Int} {D:Nat} {q:Rat} {k:Nat} (h1:Rz w (.agg #[.bool b,.slice ad n c]) z) (h2:Dg w .i64 65536 (.slice ae m d) D) (hD:0<D) (hq:q=mkRat z D) (l1:Lim z.natAbs k) (l2:Lim D k):
 Rr w (.agg #[.bool b,.slice ad n c,.slice ae m d]) q k:=⟨b,ad,n,c,ae,m,d,z,D,rfl,h1,h2,hD,hq,l1,l2⟩
theorem Rr.up {w:World} {v:Value} {q:Rat} {k:Nat} (h:Rr w v q k) (j:Nat) (hj:k≤j):Rr w v q j:=by
 obtain⟨b,ad,n,c,ae,m,d,z,D,h1,h2,h3,h4,h5,h6,h7⟩:=h
 exact⟨b,ad,n,c,ae,m,d,z,D,h1,h2,h3,h4,h5,h6.up j hj,h7.up j hj⟩
theorem Rr.cast {w:World} {v:Value} {q q':Rat} {k:Nat} (h:Rr w v q k) (e:q=q'):Rr w v q' k:=by subst e;exact h
theorem bs_one (w:World):∃v w',(Instr.buildSlice 36 1 #[(0,.int .i64 1)]).run Tryz.prog w= .ok v w'∧Below w.heap.size w w'∧Dg w' .i64 65536 v 1:=by
 refine⟨.slice (some ⟨w.heap.size,0,none⟩) 1 1,w.alloc (.cells #[.int .i64 1] 3),?_,(Below.refl _ _).alloc (Nat.le_refl _) _,?_⟩
 ·have hs:=size_run (P:=Tryz.prog) (T:=3) (n:=1) (by kernel_rfl) w
  simp[Instr.buildSlice,go_sem,hs,Instr.fill,Value.cells,newRow]
 ·have e:dg 65536 1=[1]:=by decide+kernel
  unfold Dg
  rw[e]
  refine⟨some ⟨w.heap.size,0,none⟩,1,rfl,⟨fun i hi=>?_⟩,by simp,by unfold maxLen;omega,by simp,fun h=>by cases h⟩
  have h0:i=0:=by simp at hi;omega
  subst h0
  refine⟨w.heap.size,0,rfl,by simp,?_⟩
  rw[cell_of_row _ w.heap.size 0 #[.int .i64 1] 3 (0,0) (heap_alloc_new w _)]
  rfl
theorem mk_div (z y:Int) (h:y≠0):mkRat (sg (decide (z<0) !=decide (y<0)) z.natAbs) y.natAbs=(z:Rat)/(y:Rat):=by
 rw[←Rat.divInt_eq_div]
 have hz:z=sg (decide (z<0)) z.natAbs:=(sg_self z).symm
 generalize hb:decide (z<0)=b at*
 rcases Int.lt_or_gt_of_ne h with h'|h'
 ·obtain⟨m,rfl⟩:∃m:Nat,y= -(m:Int):=⟨y.natAbs,by omega⟩
  rw[decide_eq_true h',Rat.divInt_neg',Rat.divInt_ofNat,Int.natAbs_neg,Int.natAbs_natCast]
  congr 1
  generalize z.natAbs=N at*
  subst hz
  cases b <;> simp[sg]
 ·obtain⟨m,rfl⟩:∃m:Nat,y=(m:Int):=⟨y.natAbs,by omega⟩
  rw[decide_eq_false (by omega),Rat.divInt_ofNat,Int.natAbs_natCast]
  congr 1
  generalize z.natAbs=N at*
  subst hz
  cases b <;> simp[sg]
theorem radd_eq {z1 z2:Int} {d1 d2:Nat} (h1:0<d1) (h2:0<d2):((z1*(d2:Int)+z2*(d1:Int):Int):Rat)/(((d1:Int)*(d2:Int):Int):Rat)=mkRat z1 d1+mkRat z2 d2:=by
 rw[Rat.mkRat_add_mkRat _ _ (by omega) (by omega),←Rat.divInt_eq_div,Int.ofNat_mul_ofNat,Rat.divInt_ofNat]
theorem rmul_eq {z1 z2:Int} {d1 d2:Nat} (h1:0<d1) (h2:0<d2):((z1*z2:Int):Rat)/(((d1*d2:Nat):Int):Rat)=mkRat z1 d1*mkRat z2 d2:=by
 rw[Rat.mkRat_mul_mkRat,←Rat.divInt_eq_div,Rat.divInt_ofNat]
theorem rdiv_eq {z1 z2:Int} {d1 d2:Nat} (h1:0<d1) (h2:0<d2):((z1*(d2:Int):Int):Rat)/(((d1:Int)*z2:Int):Rat)=mkRat z1 d1/mkRat z2 d2:=by
 have e1:mkRat z1 d1=Rat.divInt z1 (d1:Int):=(Rat.divInt_ofNat z1 d1).symm
 have e2:mkRat z2 d2=Rat.divInt z2 (d2:Int):=(Rat.divInt_ofNat z2 d2).symm
 rw[e1,e2,Rat.div_def (Rat.divInt z1 (d1:Int)),Rat.inv_divInt,Rat.divInt_mul_divInt,Rat.divInt_eq_div]
theorem sz_mk {z:Int} {d:Nat} (h:0<d):sz z=sz (mkRat z d).num :=by
 rw[Rat.num_mkRat,if_neg (by omega)]
 have hg:Nat.gcd d z.natAbs ∣ z.natAbs:=Nat.gcd_dvd_right _ _
 have hp:0<Nat.gcd d z.natAbs:=Nat.gcd_pos_of_pos_left _ h
 obtain⟨t,ht⟩:((Nat.gcd d z.natAbs:Nat):Int) ∣ z:=Int.ofNat_dvd_left.2 hg
 generalize Nat.gcd d z.natAbs=g at*
 subst ht
 rw[Int.mul_ediv_cancel_left _ (by omega)]
 unfold sz
 rcases Int.lt_trichotomy t 0 with h1|h1|h1
 ·have:=Int.mul_neg_of_pos_of_neg (show(0:Int)<g by omega) h1
  rw[if_neg (by omega),if_pos this,if_neg (by omega),if_pos h1]
 ·subst h1;simp
 ·have:=Int.mul_pos (show(0:Int)<g by omega) h1
  rw[if_neg (by omega),if_neg (by omega),if_neg (by omega),if_neg (by omega)]
theorem cross_lt {z1 z2:Int} {d1 d2:Nat} (h1:0<d1) (h2:0<d2):z1*(d2:Int)<z2*(d1:Int)↔mkRat z1 d1<mkRat z2 d2:=by
 have e1:=Rat.mkRat_eq_div z1 d1
 have e2:=Rat.mkRat_eq_div z2 d2
 have p1:(0:Rat)<(d1:Rat):=Rat.natCast_pos.2 h1
 have p2:(0:Rat)<(d2:Rat):=Rat.natCast_pos.2 h2
 rw[e1,e2,Rat.div_lt_iff p1,←Rat.intCast_lt_intCast,Rat.intCast_mul,Rat.intCast_mul,Rat.intCast_natCast,Rat.intCast_natCast]
 rw[show(z2:Rat)/(d2:Rat)*(d1:Rat)=(z2*(d1:Rat))/(d2:Rat) by rw[Rat.div_def,Rat.div_def,Rat.mul_assoc,Rat.mul_assoc,Rat.mul_comm (d2:Rat)⁻¹]]
 rw[Rat.lt_div_iff p2]
theorem ci_cross {z1 z2:Int} {d1 d2:Nat} (h1:0<d1) (h2:0<d2):ci (z1*(d2:Int)) (z2*(d1:Int))=qc (mkRat z1 d1) (mkRat z2 d2):=by
 have a:=cross_lt (z1:=z1) (z2:=z2) h1 h2
 have b:=cross_lt (z1:=z2) (z2:=z1) h2 h1
 have c:=Rat.lt_iff (mkRat z1 d1) (mkRat z2 d2)
 have d:=Rat.lt_iff (mkRat z2 d2) (mkRat z1 d1)
 unfold qc ci
 simp only [←c,←d,a,b]
end
section
theorem Rr.cl {q:Rat} {k:Nat} (v:Value):Cl fun w=>Rr w v q k:=fun _ _ h kp=>h.keep kp
theorem Rz.cl {z:Int} (v:Value):Cl fun w=>Rz w v z:=fun _ _ h kp=>h.keep kp
theorem ty_RRat:Ty Tryz.prog 40 3 [.bool false,.slice none 0 0,.slice none 0 0]:=⟨⟨_,Tryz.underlying40,rfl⟩,sz_RRat,ze_RRat⟩
theorem ty_RInt:Ty Tryz.prog 38 2 [.bool false,.slice none 0 0]:=⟨⟨_,Tryz.underlying38,rfl⟩,sz_RInt,ze_RInt⟩
end
section
theorem rz_lim {k:Nat} (h:1≤k):Lim (0:Int).natAbs k:=Nat.lt_of_lt_of_le (by decide:0<B32^1) (Nat.pow_le_pow_right B32_pos h)
theorem dmk_any (v1 v2:Value) (z1 z2:Int) (k:Nat) (w:World) (h1:Rz w v1 z1) (h2:Rz w v2 z2) (l1:Lim z1.natAbs k) (l2:Lim z2.natAbs k) (hk1:1≤k):
 Calls Tryz.prog 104 #[v1,v2] w (RrPost w ((z1:Rat)/(z2:Rat)) k):=by
 obtain⟨b1,ad1,n1,c1,rfl⟩:=h1.form
 have ha1:=h1.abs
 have hb1:=h1.neg
 obtain⟨b2,ad2,n2,c2,rfl⟩:=h2.form
 have ha2:=h2.abs
 have hb2:=h2.neg
 by_cases e1:z1=0
 ·have hq:=Lib.hid (show(z1:Rat)/(z2:Rat)=0 by rw[e1,Rat.intCast_zero,Rat.div_def,Rat.zero_mul])
  have hm1:n1=0:=Dg.len0 (by rw[e1] at ha1;exact ha1)
  clear e1 hb1 hb2
  have st:=St.start w
  refine E.enter (nt:=29) (L:=[(0,.agg #[.bool b1,.slice ad1 n1 c1]),(1,.agg #[.bool b2,.slice ad2 n2 c2])]) Tryz.func104 rfl rfl rfl (args_cons (i:=0) rfl (args_cons (i:=1) rfl args_nil)) ?_
  intro a hF
  refine wp_seq ?_
  refine E.seq ?_
  refine S.box st hF (hF.at 0 rfl) rfl rfl fun g2 w1 a st hF=>?_
  refine S.box st hF (hF.at 2 rfl) rfl rfl fun g3 w2 a st hF=>?_
  refine S.alloc st hF ty_RRat rfl rfl fun g4 w3 a st hF=>?_
  refine E.nil ?_
  refine wp_seq ?_
  refine wp_seq ?_
  refine E.seq ?_
  refine E.opv hF (r_field (hF.at 2 rfl) (fa_RInt_1 (p:=1) rfl)) rfl rfl rfl rfl fun a hF=>?_
  refine E.opv hF (r_load (hF.at 0 rfl) (ld_Num (v:= .slice ad1 n1 c1) (st.b 2 rfl rfl) rfl)) rfl rfl rfl rfl fun a hF=>?_
  refine E.opv hF (r_builtin (map1 (hF.at 0 rfl)) bl_num) rfl rfl rfl rfl fun a hF=>?_
  refine E.opv hF (r_bin (hF.at 0 rfl) ev_c eg_scalar (bi_int (ic_eql (c:=true) (eq0 (by rw[hm1];rfl))) (by simp))) rfl rfl rfl rfl fun a hF=>?_
  refine E.opv hF (r_move (hF.at 0 rfl)) rfl rfl rfl rfl fun a hF=>?_
  refine E.unwanted hF (wanted_by rfl rfl (hF.at 0 rfl) rfl) rfl rfl rfl fun a hF=>?_
  refine E.unwanted hF (wanted_by rfl rfl (hF.at 1 rfl) rfl) rfl rfl rfl fun a hF=>?_
  refine E.unwanted hF (wanted_by rfl rfl (hF.at 2 rfl) rfl) rfl rfl rfl fun a hF=>?_
  refine E.unwanted hF (wanted_by rfl rfl (hF.at 3 rfl) rfl) rfl rfl rfl fun a hF=>?_
  refine E.opv hF (r_pick_t (hF.at 4 rfl) ev_c) rfl rfl rfl rfl fun a hF=>?_
  refine E.nil ?_
  refine wp_cond_true (hF.at 0 rfl) ?_
  refine wp_seq ?_
  refine E.seq ?_
  refine E.opv hF (r_build (by simp) (bd_RInt_ _)) rfl rfl rfl rfl fun a hF=>?_
  obtain⟨vv4,w5,hr,bb,hh6⟩:=bs_one w3
  refine E.opv hF (r_buildSlice (pair1 ev_c) hr) rfl rfl rfl rfl fun a hF=>?_
  replace st:=(st.to bb).add hh6 (Dg.cl _)
  clear hr bb hh6
  obtain⟨ad7,n7,c7,rfl⟩:=Dg.form (st.f 0 rfl)
  refine E.opv hF (r_build (pair2 (hF.at 1 rfl) (hF.at 0 rfl)) (bd_RRat_01 _ _ _ _ _ _ _ _)) rfl rfl rfl rfl fun a hF=>?_
  refine S.sto st hF 0 rfl (hF.at 13 rfl) (hF.at 0 rfl) ty_RRat rfl rfl rfl rfl fun w8 a st hF=>?_
  refine E.nil ?_
  refine wp_ret ?_
  refine S.ret Tryz.results104 st hF (hF.at 13 rfl) 0 rfl ty_RRat rfl hF.dfr ?_
  have bel:=st.bel
  have hh6:=(st.f 0 rfl)
  exact⟨_,rfl,Rr.mk (Rz.zero _) hh6 (by omega) (hq.out.trans (Rat.zero_mkRat 1).symm) (rz_lim hk1) (Lim.one hk1),bel⟩
 ·by_cases e2:z2=0
  ·have hq:=Lib.hid (show(z1:Rat)/(z2:Rat)=0 by rw[e2,Rat.intCast_zero,Rat.div_def,Rat.inv_zero,Rat.mul_zero])
   have hm1:=Dg.lenp (by decide) ha1 (by omega)
   have hm2:n2=0:=Dg.len0 (by rw[e2] at ha2;exact ha2)
   clear e1 e2 hb1 hb2
   have st:=St.start w
   refine E.enter (nt:=29) (L:=[(0,.agg #[.bool b1,.slice ad1 n1 c1]),(1,.agg #[.bool b2,.slice ad2 n2 c2])]) Tryz.func104 rfl rfl rfl (args_cons (i:=0) rfl (args_cons (i:=1) rfl args_nil)) ?_
   intro a hF
   refine wp_seq ?_
   refine E.seq ?_
   refine S.box st hF (hF.at 0 rfl) rfl rfl fun g2 w1 a st hF=>?_
   refine S.box st hF (hF.at 2 rfl) rfl rfl fun g3 w2 a st hF=>?_
   refine S.alloc st hF ty_RRat rfl rfl fun g4 w3 a st hF=>?_
   refine E.nil ?_
   refine wp_seq ?_
   refine wp_seq ?_
   refine E.seq ?_
   refine E.opv hF (r_field (hF.at 2 rfl) (fa_RInt_1 (p:=1) rfl)) rfl rfl rfl rfl fun a hF=>?_
   refine E.opv hF (r_load (hF.at 0 rfl) (ld_Num (v:= .slice ad1 n1 c1) (st.b 2 rfl rfl) rfl)) rfl rfl rfl rfl fun a hF=>?_
   refine E.opv hF (r_builtin (map1 (hF.at 0 rfl)) bl_num) rfl rfl rfl rfl fun a hF=>?_
   refine E.opv hF (r_bin (hF.at 0 rfl) ev_c eg_scalar (bi_int (ic_eql (c:=false) (eq0f (by omega))) (by simp))) rfl rfl rfl rfl fun a hF=>?_
   refine E.opv hF (r_move (hF.at 0 rfl)) rfl rfl rfl rfl fun a hF=>?_
   refine E.opvg hF (r_field (hF.at 6 rfl) (fa_RInt_1 (p:=1) rfl)) (wanted_by rfl rfl (hF.at 0 rfl) rfl) rfl rfl rfl fun a hF=>?_
   refine E.opvg hF (r_load (hF.at 0 rfl) (ld_Num (v:= .slice ad2 n2 c2) (st.b 1 rfl rfl) rfl)) (wanted_by rfl rfl (hF.at 1 rfl) rfl) rfl rfl rfl fun a hF=>?_
   refine E.opvg hF (r_builtin (map1 (hF.at 0 rfl)) bl_num) (wanted_by rfl rfl (hF.at 2 rfl) rfl) rfl rfl rfl fun a hF=>?_
   refine E.opvg hF (r_bin (hF.at 0 rfl) ev_c eg_scalar (bi_int (ic_eql (c:=true) (eq0 (by rw[hm2];rfl))) (by simp))) (wanted_by rfl rfl (hF.at 3 rfl) rfl) rfl rfl rfl fun a hF=>?_
   refine E.opv hF (r_pick_f (hF.at 4 rfl) (hF.at 0 rfl)) rfl rfl rfl rfl fun a hF=>?_
   refine E.nil ?_
   refine wp_cond_true (hF.at 0 rfl) ?_
   refine wp_seq ?_
   refine E.seq ?_
   refine E.opv hF (r_build (by simp) (bd_RInt_ _)) rfl rfl rfl rfl fun a hF=>?_
   obtain⟨vv4,w5,hr,bb,hh6⟩:=bs_one w3
   refine E.opv hF (r_buildSlice (pair1 ev_c) hr) rfl rfl rfl rfl fun a hF=>?_
   replace st:=(st.to bb).add hh6 (Dg.cl _)
   clear hr bb hh6
   obtain⟨ad7,n7,c7,rfl⟩:=Dg.form (st.f 0 rfl)
   refine E.opv hF (r_build (pair2 (hF.at 1 rfl) (hF.at 0 rfl)) (bd_RRat_01 _ _ _ _ _ _ _ _)) rfl rfl rfl rfl fun a hF=>?_
   refine S.sto st hF 0 rfl (hF.at 13 rfl) (hF.at 0 rfl) ty_RRat rfl rfl rfl rfl fun w8 a st hF=>?_
   refine E.nil ?_
   refine wp_ret ?_
   refine S.ret Tryz.results104 st hF (hF.at 13 rfl) 0 rfl ty_RRat rfl hF.dfr ?_
   have bel:=st.bel
   have hh6:=(st.f 0 rfl)
   exact⟨_,rfl,Rr.mk (Rz.zero _) hh6 (by omega) (hq.out.trans (Rat.zero_mkRat 1).symm) (rz_lim hk1) (Lim.one hk1),bel⟩
  ·have hq:=Lib.hid (show(z1:Rat)/(z2:Rat)=mkRat (sg (b1 !=b2) (Int.natAbs z1)) (Int.natAbs z2) by rw[hb1,hb2];exact(mk_div z1 z2 e2).symm)
   have hm1:=Dg.lenp (by decide) ha1 (by omega)
   have hm2:=Dg.lenp (by decide) ha2 (by omega)
   have hD:0<Int.natAbs z2:=by omega
   clear e1 e2 hb1 hb2
   have st:=St.start w
   refine E.enter (nt:=29) (L:=[(0,.agg #[.bool b1,.slice ad1 n1 c1]),(1,.agg #[.bool b2,.slice ad2 n2 c2])]) Tryz.func104 rfl rfl rfl (args_cons (i:=0) rfl (args_cons (i:=1) rfl args_nil)) ?_
   intro a hF
   refine wp_seq ?_
   refine E.seq ?_
   refine S.box st hF (hF.at 0 rfl) rfl rfl fun g2 w1 a st hF=>?_
   refine S.box st hF (hF.at 2 rfl) rfl rfl fun g3 w2 a st hF=>?_
   refine S.alloc st hF ty_RRat rfl rfl fun g4 w3 a st hF=>?_
   refine E.nil ?_
   refine wp_seq ?_
   refine wp_seq ?_
   refine E.seq ?_
   refine E.opv hF (r_field (hF.at 2 rfl) (fa_RInt_1 (p:=1) rfl)) rfl rfl rfl rfl fun a hF=>?_
   refine E.opv hF (r_load (hF.at 0 rfl) (ld_Num (v:= .slice ad1 n1 c1) (st.b 2 rfl rfl) rfl)) rfl rfl rfl rfl fun a hF=>?_
   refine E.opv hF (r_builtin (map1 (hF.at 0 rfl)) bl_num) rfl rfl rfl rfl fun a hF=>?_
   refine E.opv hF (r_bin (hF.at 0 rfl) ev_c eg_scalar (bi_int (ic_eql (c:=false) (eq0f (by omega))) (by simp))) rfl rfl rfl rfl fun a hF=>?_
   refine E.opv hF (r_move (hF.at 0 rfl)) rfl rfl rfl rfl fun a hF=>?_
   refine E.opvg hF (r_field (hF.at 6 rfl) (fa_RInt_1 (p:=1) rfl)) (wanted_by rfl rfl (hF.at 0 rfl) rfl) rfl rfl rfl fun a hF=>?_
   refine E.opvg hF (r_load (hF.at 0 rfl) (ld_Num (v:= .slice ad2 n2 c2) (st.b 1 rfl rfl) rfl)) (wanted_by rfl rfl (hF.at 1 rfl) rfl) rfl rfl rfl fun a hF=>?_
   refine E.opvg hF (r_builtin (map1 (hF.at 0 rfl)) bl_num) (wanted_by rfl rfl (hF.at 2 rfl) rfl) rfl rfl rfl fun a hF=>?_
   refine E.opvg hF (r_bin (hF.at 0 rfl) ev_c eg_scalar (bi_int (ic_eql (c:=false) (eq0f (by omega))) (by simp))) (wanted_by rfl rfl (hF.at 3 rfl) rfl) rfl rfl rfl fun a hF=>?_
   refine E.opv hF (r_pick_f (hF.at 4 rfl) (hF.at 0 rfl)) rfl rfl rfl rfl fun a hF=>?_
   refine E.nil ?_
   refine wp_cond_false (hF.at 0 rfl) ?_
   refine wp_skip ?_
   refine E.norm ?_
   refine wp_seq ?_
   refine E.drawn 11 mixed hF [18,19,20,21,22,23,24,25,26,27,28] [(fun _ v=>v= .pointer (some ⟨g2,0,none⟩)),(fun _ v=>v= .bool b1),(fun _ v=>v= .pointer (some ⟨g3,0,none⟩)),(fun _ v=>v= .bool b2),(fun _ v=>v= .bool (b1 !=b2)),(fun _ v=>v= .pointer (some ⟨g2,1,none⟩)),(fun _ v=>v= .slice ad1 n1 c1),(fun w v=>Rz w v (sg ((b1 !=b2)) (Int.natAbs (z1)))),(fun _ v=>v= .pointer (some ⟨g3,1,none⟩)),(fun _ v=>v= .slice ad2 n2 c2),(fun w v=>Rr w v ((z1:Rat)/(z2:Rat)) (k))] [] (by decide+kernel) (by decide+kernel) rfl rfl rfl ⟨(Mb.eq _),(Mb.eq _),(Mb.eq _),(Mb.eq _),(Mb.eq _),(Mb.eq _),(Mb.eq _),(fun _ _ _ h hb=>h.below hb),(Mb.eq _),(Mb.eq _),(fun _ _ _ h hb=>h.below hb),trivial⟩ trivial ⟨?_,?_,?_,?_,?_,?_,?_,?_,?_,?_,?_,trivial⟩ ?_
   ·intro a' w' hF' hb hd
    exact dv0 (r_field (hF'.at 12 rfl) (fa_RInt_0 (p:=0) rfl)) rfl rfl rfl
   ·intro a' w' hF' hb hd
    have e18:=sHe hd 0 18 rfl rfl rfl rfl
    exact dv0 (r_load e18 (ld_bool (v:= .bool b1) ((st.b 2 rfl rfl).below hb) rfl)) rfl rfl rfl
   ·intro a' w' hF' hb hd
    exact dv0 (r_field (hF'.at 11 rfl) (fa_RInt_0 (p:=0) rfl)) rfl rfl rfl
   ·intro a' w' hF' hb hd
    have e20:=sHe hd 0 20 rfl rfl rfl rfl
    exact dv0 (r_load e20 (ld_bool (v:= .bool b2) ((st.b 1 rfl rfl).below hb) rfl)) rfl rfl rfl
   ·intro a' w' hF' hb hd
    have e19:=sHe hd 0 19 rfl rfl rfl rfl
    have e21:=sHe hd 1 21 rfl rfl rfl rfl
    exact dv0 (r_bin e19 e21 eg_bool (bb_neq (d:=(b1 !=b2)) rfl)) rfl rfl rfl
   ·intro a' w' hF' hb hd
    exact dv0 (r_field (hF'.at 12 rfl) (fa_RInt_1 (p:=1) rfl)) rfl rfl rfl
   ·intro a' w' hF' hb hd
    have e23:=sHe hd 0 23 rfl rfl rfl rfl
    exact dv0 (r_load e23 (ld_Num (v:= .slice ad1 n1 c1) ((st.b 2 rfl rfl).below hb) rfl)) rfl rfl rfl
   ·intro a' w' hF' hb hd
    have e22:=sHe hd 0 22 rfl rfl rfl rfl
    have e24:=sHe hd 1 24 rfl rfl rfl rfl
    exact dc0 (r_call Tryz.func71 en71.1 en71.2 (map2 e22 e24)) (rmake_any _ _ (Int.natAbs (z1)) _ (ha1.below (below_to st.bel hb))) rfl rfl
   ·intro a' w' hF' hb hd
    exact dv0 (r_field (hF'.at 11 rfl) (fa_RInt_1 (p:=1) rfl)) rfl rfl rfl
   ·intro a' w' hF' hb hd
    have e26:=sHe hd 0 26 rfl rfl rfl rfl
    exact dv0 (r_load e26 (ld_Num (v:= .slice ad2 n2 c2) ((st.b 1 rfl rfl).below hb) rfl)) rfl rfl rfl
   ·intro a' w' hF' hb hd
    obtain⟨v25_0,e25,h25_1⟩:=sH hd 0 25 rfl rfl rfl rfl
    have e27:=sHe hd 1 27 rfl rfl rfl rfl
    obtain⟨b4,ad4,n4,c4,rfl⟩:=Rz.form h25_1
    exact dv0 (r_build (pair2 e25 e27) (bd_RRat_01 _ _ _ _ _ _ _ _)) (Rr.mk h25_1 (ha2.below (below_to st.bel hb)) hD hq.out (sg_lim _ l1) l2) rfl rfl
   intro a w5 hF bb hall hne
   replace st:=st.to bb
   obtain⟨vv6,e28,hh7⟩:=sS hall 10 28 rfl rfl
   replace st:=st.add hh7 (Rr.cl _)
   clear hh7
   clear hall hne bb
   obtain⟨b8,ad8,n8,c8,ae8,m8,d8,rfl⟩:=Rr.form (st.f 0 rfl)
   replace hF:=hF.add e28
   clear e28
   refine S.sto st hF 0 rfl (hF.at 11 rfl) (hF.at 0 rfl) ty_RRat rfl rfl rfl rfl fun w9 a st hF=>?_
   refine E.nil ?_
   refine wp_ret ?_
   refine S.ret Tryz.results104 st hF (hF.at 11 rfl) 0 rfl ty_RRat rfl hF.dfr ?_
   have bel:=st.bel
   have hh7:=(st.f 0 rfl)
   exact⟨_,rfl,hh7,bel⟩
theorem dOpp_any (v1:Value) (q1:Rat) (k:Nat) (w:World) (h1:Rr w v1 q1 k):
 Calls Tryz.prog 145 #[v1] w (RrPost w (-q1) k):=by
 obtain⟨b1,ad1,n1,c1,ae1,m1,d1,z1,D1,rfl,hn1,hd1,hD1,hq1,lz1,lD1⟩:=h1.shape
 have h1:Rr w (.agg #[.bool b1,.slice ad1 n1 c1,.slice ae1 m1 d1]) q1 k:=⟨_,_,_,_,_,_,_,_,_,rfl,hn1,hd1,hD1,hq1,lz1,lD1⟩
 have ha1:=hn1.abs
 have hb1:=hn1.neg
 replace hq1:=Lib.hid hq1
 have st:=St.start w
 refine E.enter (nt:=9) (L:=[(0,.agg #[.bool b1,.slice ad1 n1 c1,.slice ae1 m1 d1])]) Tryz.func145 rfl rfl rfl (args_cons (i:=0) rfl args_nil) ?_
 intro a hF
 refine wp_seq ?_
 refine E.seq ?_
 refine S.box st hF (hF.at 0 rfl) rfl rfl fun g1 w1 a st hF=>?_
 refine S.alloc st hF ty_RRat rfl rfl fun g2 w2 a st hF=>?_
 refine E.nil ?_
 refine wp_seq ?_
 refine E.drawn 6 mixed hF [3,4,5,6,7,8] [(fun _ v=>v= .pointer (some ⟨g1,0,none⟩)),(fun _ v=>v= .agg #[.bool b1,.slice ad1 n1 c1]),(fun w v=>Rz w v (-(z1))),(fun _ v=>v= .pointer (some ⟨g1,2,none⟩)),(fun _ v=>v= .slice ae1 m1 d1),(fun w v=>Rr w v (-q1) (k))] [] (by decide+kernel) (by decide+kernel) rfl rfl rfl ⟨(Mb.eq _),(Mb.eq _),(fun _ _ _ h hb=>h.below hb),(Mb.eq _),(Mb.eq _),(fun _ _ _ h hb=>h.below hb),trivial⟩ trivial ⟨?_,?_,?_,?_,?_,?_,trivial⟩ ?_
 ·intro a' w' hF' hb hd
  exact dv0 (r_field (hF'.at 1 rfl) (fa_RRat_0 (p:=0) rfl)) rfl rfl rfl
 ·intro a' w' hF' hb hd
  have e3:=sHe hd 0 3 rfl rfl rfl rfl
  exact dv0 (r_load e3 (ld_RInt (vs:=[.bool b1,.slice ad1 n1 c1]) ((st.b 1 rfl rfl).below hb) rfl rfl)) rfl rfl rfl
 ·intro a' w' hF' hb hd
  have e4:=sHe hd 0 4 rfl rfl rfl rfl
  exact dc0 (r_call Tryz.func140 en140.1 en140.2 (map1 e4)) (ropp_any _ _ _ (hn1.below (below_to st.bel hb))) rfl rfl
 ·intro a' w' hF' hb hd
  exact dv0 (r_field (hF'.at 1 rfl) (fa_RRat_1 (p:=2) rfl)) rfl rfl rfl
 ·intro a' w' hF' hb hd
  have e6:=sHe hd 0 6 rfl rfl rfl rfl
  exact dv0 (r_load e6 (ld_Num (v:= .slice ae1 m1 d1) ((st.b 1 rfl rfl).below hb) rfl)) rfl rfl rfl
 ·intro a' w' hF' hb hd
  obtain⟨v5_0,e5,h5_1⟩:=sH hd 0 5 rfl rfl rfl rfl
  have e7:=sHe hd 1 7 rfl rfl rfl rfl
  obtain⟨b3,ad3,n3,c3,rfl⟩:=Rz.form h5_1
  exact dv0 (r_build (pair2 e5 e7) (bd_RRat_01 _ _ _ _ _ _ _ _)) (Rr.mk h5_1 (hd1.below (below_to st.bel hb)) hD1 (by rw[hq1.out,Rat.neg_mkRat]) (limz_neg lz1) lD1) rfl rfl
 intro a w4 hF bb hall hne
 replace st:=st.to bb
 obtain⟨vv5,e8,hh6⟩:=sS hall 5 8 rfl rfl
 replace st:=st.add hh6 (Rr.cl _)
 clear hh6
 clear hall hne bb
 obtain⟨b7,ad7,n7,c7,ae7,m7,d7,rfl⟩:=Rr.form (st.f 0 rfl)
 replace hF:=hF.add e8
 clear e8
 refine S.sto st hF 0 rfl (hF.at 1 rfl) (hF.at 0 rfl) ty_RRat rfl rfl rfl rfl fun w8 a st hF=>?_
 refine E.nil ?_
 refine wp_ret ?_
 refine S.ret Tryz.results145 st hF (hF.at 1 rfl) 0 rfl ty_RRat rfl hF.dfr ?_
 have bel:=st.bel
 have hh6:=(st.f 0 rfl)
 exact⟨_,rfl,hh6,bel⟩
theorem dSgn_any (v1:Value) (q1:Rat) (k:Nat) (w:World) (h1:Rr w v1 q1 k):
 Calls Tryz.prog 193 #[v1] w (IntPost w (sz q1.num)):=by
 obtain⟨b1,ad1,n1,c1,ae1,m1,d1,z1,D1,rfl,hn1,hd1,hD1,hq1,lz1,lD1⟩:=h1.shape
 have h1:Rr w (.agg #[.bool b1,.slice ad1 n1 c1,.slice ae1 m1 d1]) q1 k:=⟨_,_,_,_,_,_,_,_,_,rfl,hn1,hd1,hD1,hq1,lz1,lD1⟩
 have ha1:=hn1.abs
 have hb1:=hn1.neg
 replace hq1:=Lib.hid hq1
 have st:=St.start w
 refine E.enter (nt:=6) (L:=[(0,.agg #[.bool b1,.slice ad1 n1 c1,.slice ae1 m1 d1])]) Tryz.func193 rfl rfl rfl (args_cons (i:=0) rfl args_nil) ?_
 intro a hF
 refine wp_seq ?_
 refine E.seq ?_
 refine S.box st hF (hF.at 0 rfl) rfl rfl fun g1 w1 a st hF=>?_
 refine E.opv hF (r_assign ev_c) rfl rfl rfl rfl fun a hF=>?_
 refine E.nil ?_
 refine wp_seq ?_
 refine E.seq ?_
 refine E.opv hF (r_field (hF.at 1 rfl) (fa_RRat_0 (p:=0) rfl)) rfl rfl rfl rfl fun a hF=>?_
 refine E.opv hF (r_load (hF.at 0 rfl) (ld_RInt (vs:=[.bool b1,.slice ad1 n1 c1]) (st.b 0 rfl rfl) rfl rfl)) rfl rfl rfl rfl fun a hF=>?_
 refine S.callx st hF (r_call Tryz.func139 en139.1 en139.2 (map1 (hF.at 0 rfl))) (rsign_any _ _ _ (hn1.below st.bel)) rfl rfl rfl rfl fun w2 a st hF=>?_
 refine E.opset (L':=[(2,.int .i64 (sz (z1))),(5,.int .i64 (sz (z1))),(4,.agg #[.bool b1,.slice ad1 n1 c1]),(3,.pointer (some ⟨g1,0,none⟩)),(1,.pointer (some ⟨g1,0,none⟩)),(0,.agg #[.bool b1,.slice ad1 n1 c1,.slice ae1 m1 d1])]) hF (r_assign (hF.at 0 rfl)) rfl rfl rfl rfl fun a hF=>?_
 refine E.nil ?_
 refine wp_ret ?_
 have bel:=st.bel
 refine bodyPost_ret (res_tmp Tryz.results193 (hF.at 0 rfl)) hF.dfr ?_
 exact⟨by rw[hq1.out,←sz_mk hD1],bel⟩
theorem sz_neg {z:Int}:sz z<0↔z<0:=by unfold sz;split <;> (try split) <;> omega
theorem abs_neg_of {q:Rat} (h:sz q.num<0): -q=Rat.abs q:=by
 have h1:=sz_neg.1 h
 rw[Rat.abs_of_nonpos]
 exact Rat.not_lt.1 (fun h2=>by have:=Rat.num_nonneg.2 (Rat.le_of_lt h2);omega)
theorem abs_pos_of {q:Rat} (h:¬sz q.num<0):q=Rat.abs q:=by
 have h1:0≤q.num:=by
  rcases Int.lt_or_le q.num 0 with e|e
  ·exact absurd (sz_neg.2 e) h
  ·exact e
 rw[Rat.abs_of_nonneg (Rat.num_nonneg.1 h1)]
theorem dAbs_any (v1:Value) (q1:Rat) (k:Nat) (w:World) (h1:Rr w v1 q1 k):
 Calls Tryz.prog 191 #[v1] w (RrPost w (Rat.abs q1) k):=by
 obtain⟨b1,ad1,n1,c1,ae1,m1,d1,z1,D1,rfl,hn1,hd1,hD1,hq1,lz1,lD1⟩:=h1.shape
 have h1:Rr w (.agg #[.bool b1,.slice ad1 n1 c1,.slice ae1 m1 d1]) q1 k:=⟨_,_,_,_,_,_,_,_,_,rfl,hn1,hd1,hD1,hq1,lz1,lD1⟩
 have ha1:=hn1.abs
 have hb1:=hn1.neg
 replace hq1:=Lib.hid hq1
 by_cases hs:sz (Rat.num (q1))<0
 ·have HA:=Lib.hid (abs_neg_of hs)
  have st:=St.start w
  refine E.enter (nt:=9) (L:=[(0,.agg #[.bool b1,.slice ad1 n1 c1,.slice ae1 m1 d1])]) Tryz.func191 rfl rfl rfl (args_cons (i:=0) rfl args_nil) ?_
  intro a hF
  refine wp_seq ?_
  refine E.seq ?_
  refine S.box st hF (hF.at 0 rfl) rfl rfl fun g1 w1 a st hF=>?_
  refine S.alloc st hF ty_RRat rfl rfl fun g2 w2 a st hF=>?_
  refine E.nil ?_
  refine wp_seq ?_
  refine wp_seq ?_
  refine E.seq ?_
  refine E.opv hF (r_load (hF.at 1 rfl) (ld_all ty_RRat (st.bk 1 rfl) rfl)) rfl rfl rfl rfl fun a hF=>?_
  refine S.callx st hF (r_call Tryz.func193 en193.1 en193.2 (map1 (hF.at 0 rfl))) (dSgn_any _ (q1) k _ (h1.below st.bel)) rfl rfl rfl rfl fun w3 a st hF=>?_
  refine E.opv hF (r_bin (hF.at 0 rfl) ev_c eg_scalar (bi_int (ic_lss (c:=true) (dec_t hs)) (by simp))) rfl rfl rfl rfl fun a hF=>?_
  refine E.nil ?_
  refine wp_cond_true (hF.at 0 rfl) ?_
  refine wp_seq ?_
  refine E.seq ?_
  refine E.opv hF (r_load (hF.at 4 rfl) (ld_all ty_RRat (st.bk 1 rfl) rfl)) rfl rfl rfl rfl fun a hF=>?_
  refine S.call st hF (r_call Tryz.func145 en145.1 en145.2 (map1 (hF.at 0 rfl))) (dOpp_any _ (q1) k _ (h1.below st.bel)) (fun _ _ h=>h) Rr.cl rfl rfl rfl rfl fun vv5 w4 a st hF=>?_
  obtain⟨b7,ad7,n7,c7,ae7,m7,d7,rfl⟩:=Rr.form (st.f 0 rfl)
  refine S.sto st hF 0 rfl (hF.at 5 rfl) (hF.at 0 rfl) ty_RRat rfl rfl rfl rfl fun w8 a st hF=>?_
  refine E.nil ?_
  refine wp_ret ?_
  refine S.ret Tryz.results191 st hF (hF.at 5 rfl) 0 rfl ty_RRat rfl hF.dfr ?_
  have bel:=st.bel
  have hh6:=(st.f 0 rfl)
  exact⟨_,rfl,Rr.cast hh6 HA.out,bel⟩
 ·have HA:=Lib.hid (abs_pos_of hs)
  have st:=St.start w
  refine E.enter (nt:=9) (L:=[(0,.agg #[.bool b1,.slice ad1 n1 c1,.slice ae1 m1 d1])]) Tryz.func191 rfl rfl rfl (args_cons (i:=0) rfl args_nil) ?_
  intro a hF
  refine wp_seq ?_
  refine E.seq ?_
  refine S.box st hF (hF.at 0 rfl) rfl rfl fun g1 w1 a st hF=>?_
  refine S.alloc st hF ty_RRat rfl rfl fun g2 w2 a st hF=>?_
  refine E.nil ?_
  refine wp_seq ?_
  refine wp_seq ?_
  refine E.seq ?_
  refine E.opv hF (r_load (hF.at 1 rfl) (ld_all ty_RRat (st.bk 1 rfl) rfl)) rfl rfl rfl rfl fun a hF=>?_
  refine S.callx st hF (r_call Tryz.func193 en193.1 en193.2 (map1 (hF.at 0 rfl))) (dSgn_any _ (q1) k _ (h1.below st.bel)) rfl rfl rfl rfl fun w3 a st hF=>?_
  refine E.opv hF (r_bin (hF.at 0 rfl) ev_c eg_scalar (bi_int (ic_lss (c:=false) (dec_f hs)) (by simp))) rfl rfl rfl rfl fun a hF=>?_
  refine E.nil ?_
  refine wp_cond_false (hF.at 0 rfl) ?_
  refine wp_skip ?_
  refine E.norm ?_
  refine wp_seq ?_
  refine E.seq ?_
  refine E.opv hF (r_load (hF.at 4 rfl) (ld_all ty_RRat (st.bk 1 rfl) rfl)) rfl rfl rfl rfl fun a hF=>?_
  refine S.sto st hF 0 rfl (hF.at 4 rfl) (hF.at 0 rfl) ty_RRat rfl rfl rfl rfl fun w4 a st hF=>?_
  refine E.nil ?_
  refine wp_ret ?_
  refine S.ret Tryz.results191 st hF (hF.at 4 rfl) 0 rfl ty_RRat rfl hF.dfr ?_
  have bel:=st.bel
  have h1:=(h1.below st.bel)
  exact⟨_,rfl,Rr.cast h1 HA.out,bel⟩
theorem limz_64' {n:Int} (h0: -9223372036854775808<n) (h1:n≤9223372036854775807):Lim n.natAbs 2:=Lim.of64 (by omega)
theorem dOf_any (n d:Int) (w:World) (b1: -9223372036854775808<n) (b2:n≤9223372036854775807) (b3: -9223372036854775808<d) (b4:d≤9223372036854775807):
 Calls Tryz.prog 38 #[.int .i64 n,.int .i64 d] w (RrPost w ((n:Rat)/(d:Rat)) 2):=by
 have st:=St.start w
 refine E.enter (nt:=10) (L:=[(0,.int .i64 n),(1,.int .i64 d)]) Tryz.func38 rfl rfl rfl (args_cons (i:=0) rfl (args_cons (i:=1) rfl args_nil)) ?_
 intro a hF
 refine wp_seq ?_
 refine E.seq ?_
 refine S.alloc st hF ty_RRat rfl rfl fun g4 w1 a st hF=>?_
 refine E.nil ?_
 refine wp_seq ?_
 refine E.seq ?_
 refine E.opv hF (r_move (hF.at 1 rfl)) rfl rfl rfl rfl fun a hF=>?_
 refine S.call st hF (r_call Tryz.func105 en105.1 en105.2 (map1 (hF.at 0 rfl))) (rOf_any n _ b1 b2) (fun _ _ h=>h) Rz.cl rfl rfl rfl rfl fun vv3 w2 a st hF=>?_
 obtain⟨b5,ad5,n5,c5,rfl⟩:=Rz.form (st.f 0 rfl)
 refine E.opv hF (r_move (hF.at 4 rfl)) rfl rfl rfl rfl fun a hF=>?_
 refine S.call st hF (r_call Tryz.func105 en105.1 en105.2 (map1 (hF.at 0 rfl))) (rOf_any d _ b3 b4) (fun _ _ h=>h) Rz.cl rfl rfl rfl rfl fun vv7 w6 a st hF=>?_
 obtain⟨b9,ad9,n9,c9,rfl⟩:=Rz.form (st.f 0 rfl)
 refine S.call st hF (r_call Tryz.func104 en104.1 en104.2 (map2 (hF.at 2 rfl) (hF.at 0 rfl))) (dmk_any _ _ (n) (d) 2 _ (st.f 1 rfl) (st.f 0 rfl) (Lim.up (limz_64' b1 b2) _ (by omega)) (Lim.up (limz_64' b3 b4) _ (by omega)) (by omega)) (fun _ _ h=>h) Rr.cl rfl rfl rfl rfl fun vv11 w10 a st hF=>?_
 obtain⟨b13,ad13,n13,c13,ae13,m13,d13,rfl⟩:=Rr.form (st.f 0 rfl)
 refine S.sto st hF 0 rfl (hF.at 5 rfl) (hF.at 0 rfl) ty_RRat rfl rfl rfl rfl fun w14 a st hF=>?_
 refine E.nil ?_
 refine wp_ret ?_
 refine S.ret Tryz.results38 st hF (hF.at 5 rfl) 0 rfl ty_RRat rfl hF.dfr ?_
 have bel:=st.bel
 have hh12:=(st.f 0 rfl)
 exact⟨_,rfl,hh12,bel⟩
end
section
end
end
end Go.Proofs.YtnljadejcfgmaaaGreatDoor
