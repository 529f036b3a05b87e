import Derived.Test.YtnljadejcfgmaaaGreatDoorKB14
namespace Go.Proofs.YtnljadejcfgmaaaGreatDoor
open Go.RowKit
set_option maxRecDepth 100000
set_option linter.unusedVariables false
set_option maxHeartbeats 8000000
section
section
theorem Rz.nat {w:World} {s:Value} {d:Nat} (h:Dg w .i64 65536 s d):Rz w (.agg #[.bool false,s]) ((d:Nat):Int):=by
 refine⟨s,?_,by simpa using h⟩
 rw[decide_eq_false (by omega)]
theorem bX {N k:Nat} (h:Lim N k):Lim ((N:Nat):Int).natAbs k:=by rw[Int.natAbs_natCast];exact h
theorem tT (v:Value) (N:Nat) (w:World) (h:Dg w .u32 B32 v N) (hl:dl B32 N≤1073741824):Calls Tryz.prog 72 #[v] w (ic w N):=by
 have h2:=q8 v (dg B32 N) w h (bT aL N) (by rw[aB];exact hl)
 rw[bU aL] at h2
 exact h2
theorem Rz.zero (w:World):Rz w (.agg #[.bool false,.slice none 0 0]) 0:=⟨_,rfl,Dg.zero _ _ _ _ (by unfold maxLen;omega) (fun _=>rfl)⟩
theorem Rz.neg {w:World} {b:Bool} {a:Value} {z:Int} (h:Rz w (.agg #[.bool b,a]) z):b=decide (z<0):=by
 obtain⟨a',h1,h2⟩:=h
 injection h1 with h1
 simp only [Array.mk.injEq,List.cons.injEq,and_true,Value.bool.injEq] at h1
 exact h1.1
def Rr (w:World) (v:Value) (q:Rat) (k:Nat):Prop:=
 ∃b ad n c ae m d z D,v= .agg #[.bool b,.slice ad n c,.slice ae m d]∧Rz w (.agg #[.bool b,.slice ad n c]) z∧Dg w .i64 65536 (.slice ae m d) D∧0<D∧q=mkRat z D∧Lim z.natAbs k∧Lim D k
def bK (w:World) (q:Rat) (k:Nat) (e:Ending) (w':World):Prop:=∃v,e= .returned v∧Rr w' v q k∧Below w.heap.size w w'
theorem Rr.shape {w:World} {v:Value} {q:Rat} {k:Nat} (h:Rr w v q k):∃b ad n c ae m d z D,v= .agg #[.bool b,.slice ad n c,.slice ae m d]∧Rz w (.agg #[.bool b,.slice ad n c]) z∧Dg w .i64 65536 (.slice ae m d) D∧0<D∧q=mkRat z D∧Lim z.natAbs k∧Lim D k:=h
theorem Rr.form {w:World} {v:Value} {q:Rat} {k:Nat} (h:Rr w v q k):∃b ad n c ae m d,v= .agg #[.bool b,.slice ad n c,.slice ae m d]:=by
 obtain⟨b,ad,n,c,ae,m,d,z,D,h1,_⟩:=h
 exact⟨b,ad,n,c,ae,m,d,h1⟩
theorem Rr.below {w w':World} {v:Value} {q:Rat} {k:Nat} (h:Rr w v q k) (hb:Below w.heap.size w w'):Rr w' v q k:=by
 obtain⟨b,ad,n,c,ae,m,d,z,D,h1,h2,h3,h4⟩:=h
 exact⟨b,ad,n,c,ae,m,d,z,D,h1,h2.below hb,h3.below hb,h4⟩
def Ir (q:Rat) (k:Nat):World→Value→Prop:=fun w v=>Rr w v q k
instance mbr {q:Rat} {k:Nat}:MbI (Ir q k):=⟨fun _ _ _ h hb=>Rr.below h hb⟩
theorem Rr.fo {w:World} {v:Value} {q:Rat} {k:Nat} (h:Rr w v q k):∃r:R7,v=r.v:=by
 obtain⟨b,x,n,c,y,m,d,e⟩:=h.form
 exact⟨⟨b,x,n,c,y,m,d⟩,e⟩
instance mby {z:Int}:MbI (fun w v=>Rz w v z):=⟨fun _ _ _ h hb=>Rz.below h hb⟩
theorem Rr.keep {w w':World} {v:Value} {q:Rat} {k:Nat} (h:Rr w v q k) (kp:dA w w'):Rr w' v q k:=by
 obtain⟨b,ad,n,c,ae,m,d,z,D,h1,h2,h3,h4⟩:=h
 exact⟨b,ad,n,c,ae,m,d,z,D,h1,h2.keep kp,h3.keep kp,h4⟩
theorem Rr.mk {w:World} {b:Bool} {ad ae:Option Addr} {n c m d:Nat} {z:Int} {D:Nat} {q:Rat} {k:Nat} (h1:Rz w (.agg #[.bool b,.slice ad n c]) z) (h2:Dg w .i64 65536 (.slice ae m d) D) (hD:0<D) (hq:q=mkRat z D) (l1:Lim z.natAbs k) (l2:Lim D k):
 Rr w (.agg #[.bool b,.slice ad n c,.slice ae m d]) q k:=⟨b,ad,n,c,ae,m,d,z,D,rfl,h1,h2,hD,hq,l1,l2⟩
theorem Rr.up {w:World} {v:Value} {q:Rat} {k:Nat} (h:Rr w v q k) (j:Nat) (hj:k≤j):Rr w v q j:=by
 obtain⟨b,ad,n,c,ae,m,d,z,D,h1,h2,h3,h4,h5,h6,h7⟩:=h
 exact⟨b,ad,n,c,ae,m,d,z,D,h1,h2,h3,h4,h5,h6.up j hj,h7.up j hj⟩
theorem Rr.cast {w:World} {v:Value} {q q':Rat} {k:Nat} (h:Rr w v q k) (e:q=q'):Rr w v q' k:=by subst e;exact h
theorem sC (w:World):∃v w',(Instr.buildSlice 36 1 #[(0,.int .i64 1)]).run Tryz.prog w= .ok v w'∧Below w.heap.size w w'∧Dg w' .i64 65536 v 1:=by
 refine⟨.slice (some ⟨w.heap.size,0,none⟩) 1 1,w.alloc (.cells #[.int .i64 1] 3),?_,(Below.refl _ _).alloc (Nat.le_refl _) _,?_⟩
 ·have hs:=bB (P:=Tryz.prog) (T:=3) (n:=1) (by kernel_rfl) w
  simp[Instr.buildSlice,go_sem,hs,Instr.fill,Value.cells,newRow]
 ·have e:dg 65536 1=[1]:=by decide+kernel
  unfold Dg
  rw[e]
  refine⟨some ⟨w.heap.size,0,none⟩,1,rfl,⟨fun i hi=>?_⟩,by simp,by unfold maxLen;omega,by simp,fun h=>by cases h⟩
  have h0:i=0:=by simp at hi;omega
  subst h0
  refine⟨w.heap.size,0,rfl,by simp,?_⟩
  rw[cell_of_row _ w.heap.size 0 #[.int .i64 1] 3 (0,0) (heap_alloc_new w _)]
  rfl
theorem EY (z y:Int) (h:y≠0):mkRat (sg (decide (z<0) !=decide (y<0)) z.natAbs) y.natAbs=(z:Rat)/(y:Rat):=by
 rw[←Rat.divInt_eq_div]
 have hz:z=sg (decide (z<0)) z.natAbs:=(nm z).symm
 generalize hb:decide (z<0)=b at*
 rcases Int.lt_or_gt_of_ne h with h'|h'
 ·obtain⟨m,rfl⟩:∃m:Nat,y= -(m:Int):=⟨y.natAbs,by omega⟩
  rw[decide_eq_true h',Rat.divInt_neg',Rat.divInt_ofNat,Int.natAbs_neg,Int.natAbs_natCast]
  congr 1
  generalize z.natAbs=N at*
  subst hz
  cases b <;> simp[sg]
 ·obtain⟨m,rfl⟩:∃m:Nat,y=(m:Int):=⟨y.natAbs,by omega⟩
  rw[decide_eq_false (by omega),Rat.divInt_ofNat,Int.natAbs_natCast]
  congr 1
  generalize z.natAbs=N at*
  subst hz
  cases b <;> simp[sg]
theorem C2 {z1 z2:Int} {d1 d2:Nat} (h1:0<d1) (h2:0<d2):((z1*(d2:Int)+z2*(d1:Int):Int):Rat)/(((d1:Int)*(d2:Int):Int):Rat)=mkRat z1 d1+mkRat z2 d2:=by
 rw[Rat.mkRat_add_mkRat _ _ (by omega) (by omega),←Rat.divInt_eq_div,Int.ofNat_mul_ofNat,Rat.divInt_ofNat]
theorem C8 {z1 z2:Int} {d1 d2:Nat} (h1:0<d1) (h2:0<d2):((z1*z2:Int):Rat)/(((d1*d2:Nat):Int):Rat)=mkRat z1 d1*mkRat z2 d2:=by
 rw[Rat.mkRat_mul_mkRat,←Rat.divInt_eq_div,Rat.divInt_ofNat]
theorem D8 {z1 z2:Int} {d1 d2:Nat} (h1:0<d1) (h2:0<d2):((z1*(d2:Int):Int):Rat)/(((d1:Int)*z2:Int):Rat)=mkRat z1 d1/mkRat z2 d2:=by
 have e1:mkRat z1 d1=Rat.divInt z1 (d1:Int):=(Rat.divInt_ofNat z1 d1).symm
 have e2:mkRat z2 d2=Rat.divInt z2 (d2:Int):=(Rat.divInt_ofNat z2 d2).symm
 rw[e1,e2,Rat.div_def (Rat.divInt z1 (d1:Int)),Rat.inv_divInt,Rat.divInt_mul_divInt,Rat.divInt_eq_div]
theorem GP {z:Int} {d:Nat} (h:0<d):sz z=sz (mkRat z d).num :=by
 rw[Rat.num_mkRat,if_neg (by omega)]
 have hg:Nat.gcd d z.natAbs ∣ z.natAbs:=Nat.gcd_dvd_right _ _
 have hp:0<Nat.gcd d z.natAbs:=Nat.gcd_pos_of_pos_left _ h
 obtain⟨t,ht⟩:((Nat.gcd d z.natAbs:Nat):Int) ∣ z:=Int.ofNat_dvd_left.2 hg
 generalize Nat.gcd d z.natAbs=g at*
 subst ht
 rw[Int.mul_ediv_cancel_left _ (by omega)]
 unfold sz
 rcases Int.lt_trichotomy t 0 with h1|h1|h1
 ·have:=Int.mul_neg_of_pos_of_neg (show(0:Int)<g by omega) h1
  rw[if_neg (by omega),if_pos this,if_neg (by omega),if_pos h1]
 ·subst h1;simp
 ·have:=Int.mul_pos (show(0:Int)<g by omega) h1
  rw[if_neg (by omega),if_neg (by omega),if_neg (by omega),if_neg (by omega)]
theorem sQ {z1 z2:Int} {d1 d2:Nat} (h1:0<d1) (h2:0<d2):z1*(d2:Int)<z2*(d1:Int)↔mkRat z1 d1<mkRat z2 d2:=by
 have e1:=Rat.mkRat_eq_div z1 d1
 have e2:=Rat.mkRat_eq_div z2 d2
 have p1:(0:Rat)<(d1:Rat):=Rat.natCast_pos.2 h1
 have p2:(0:Rat)<(d2:Rat):=Rat.natCast_pos.2 h2
 rw[e1,e2,Rat.div_lt_iff p1,←Rat.intCast_lt_intCast,Rat.intCast_mul,Rat.intCast_mul,Rat.intCast_natCast,Rat.intCast_natCast]
 rw[show(z2:Rat)/(d2:Rat)*(d1:Rat)=(z2*(d1:Rat))/(d2:Rat) by rw[Rat.div_def,Rat.div_def,Rat.mul_assoc,Rat.mul_assoc,Rat.mul_comm (d2:Rat)⁻¹]]
 rw[Rat.lt_div_iff p2]
theorem Bp {z1 z2:Int} {d1 d2:Nat} (h1:0<d1) (h2:0<d2):ci (z1*(d2:Int)) (z2*(d1:Int))=qc (mkRat z1 d1) (mkRat z2 d2):=by
 have a:=sQ (z1:=z1) (z2:=z2) h1 h2
 have b:=sQ (z1:=z2) (z2:=z1) h2 h1
 have c:=Rat.lt_iff (mkRat z1 d1) (mkRat z2 d2)
 have d:=Rat.lt_iff (mkRat z2 d2) (mkRat z1 d1)
 unfold qc ci
 simp only [←c,←d,a,b]
end
section
theorem Rr.cl {q:Rat} {k:Nat} (v:Value):Cl fun w=>Rr w v q k:=fun _ _ h kp=>h.keep kp
theorem Rz.cl {z:Int} (v:Value):Cl fun w=>Rz w v z:=fun _ _ h kp=>h.keep kp
theorem ag:Ty Tryz.prog 40 3 [.bool false,.slice none 0 0,.slice none 0 0]:=⟨⟨_,Tryz.underlying40,rfl⟩,jG,nH⟩
theorem db:Ty Tryz.prog 38 2 [.bool false,.slice none 0 0]:=⟨⟨_,Tryz.underlying38,rfl⟩,jA,eh⟩
end
section
theorem zn {k:Nat} (h:1≤k):Lim (0:Int).natAbs k:=Nat.lt_of_lt_of_le (by decide:0<B32^1) (Nat.pow_le_pow_right aZ h)
theorem kW (v1 v2:Value) (z1 z2:Int) (k:Nat) (w:World) (h1:Rz w v1 z1) (h2:Rz w v2 z2) (l1:Lim z1.natAbs k) (l2:Lim z2.natAbs k) (hk1:1≤k):
 Calls Tryz.prog 104 #[v1,v2] w (bK w ((z1:Rat)/(z2:Rat)) k):=by
 obtain⟨b1,ad1,n1,c1,rfl⟩:=h1.form
 have ha1:=h1.abs
 have hb1:=h1.neg
 obtain⟨b2,ad2,n2,c2,rfl⟩:=h2.form
 have ha2:=h2.abs
 have hb2:=h2.neg
 by_cases e1:z1=0
 ·have hq:=Lib.hid (show(z1:Rat)/(z2:Rat)=0 by rw[e1,Rat.intCast_zero,Rat.div_def,Rat.zero_mul])
  have hm1:n1=0:=Dg.len0 (by rw[e1] at ha1;exact ha1)
  clear e1 hb1 hb2
  have st:=St.start w
  refine go2 (nt:=29) Tryz.func104 rfl rfl rfl fun a hF=>?_
  refine wq ?_
  refine bx st hF 0 rfl rfl fun g2 w1 a st hF=>?_
  refine bx st hF 2 rfl rfl fun g3 w2 a st hF=>?_
  refine S.alloc st hF ag rfl rfl fun g4 w3 a st hF=>?_
  refine ns ?_
  refine wq ?_
  refine oV hF (aA (hF.at 2 rfl) (cy (p:=1) rfl)) rfl fun a hF=>?_
  refine oV hF (av (hF.at 0 rfl) (cp (v:= .slice ad1 n1 c1) (st.b 2 rfl rfl) rfl)) rfl fun a hF=>?_
  refine oV hF (cr (aI (hF.at 0 rfl)) gD) rfl fun a hF=>?_
  refine oV hF (aq (hF.at 0 rfl) ao ab (aw (aX (c:=true) (eq0 (by rw[hm1];rfl))) (by simp))) rfl fun a hF=>?_
  refine oM hF 0 rfl rfl fun a hF=>?_
  refine E.unwanted hF (aa rfl rfl (hF.at 0 rfl) rfl) rfl rfl rfl fun a hF=>?_
  refine E.unwanted hF (aa rfl rfl (hF.at 1 rfl) rfl) rfl rfl rfl fun a hF=>?_
  refine E.unwanted hF (aa rfl rfl (hF.at 2 rfl) rfl) rfl rfl rfl fun a hF=>?_
  refine E.unwanted hF (aa rfl rfl (hF.at 3 rfl) rfl) rfl rfl rfl fun a hF=>?_
  refine oV hF (aN (hF.at 4 rfl) ao) rfl fun a hF=>?_
  refine E.nil ?_
  refine wp_cond_true (hF.at 0 rfl) ?_
  refine wq ?_
  refine oV hF (bh (by simp) (lI _)) rfl fun a hF=>?_
  obtain⟨vv4,w5,hr,bb,hh6⟩:=sC w3
  refine oV hF (cY (fk ao) hr) rfl fun a hF=>?_
  replace st:=(st.to bb).add hh6 (Dg.cl _)
  clear hr bb hh6
  obtain⟨ad7,n7,c7,rfl⟩:=Dg.form (st.f 0 rfl)
  refine oV hF (bh (eL (hF.at 1 rfl) (hF.at 0 rfl)) (ii _ _ _ _ _ _ _ _)) rfl fun a hF=>?_
  refine so st hF 0 13 0 ag rfl rfl rfl rfl fun w8 a st hF=>?_
  refine nr ?_
  refine rs Tryz.results104 st hF 13 0 ag rfl rfl rfl ?_
  have bel:=st.bel
  have hh6:=(st.f 0 rfl)
  exact⟨_,rfl,Rr.mk (Rz.zero _) hh6 (by omega) (hq.out.trans (Rat.zero_mkRat 1).symm) (zn hk1) (Lim.one hk1),bel⟩
 ·by_cases e2:z2=0
  ·have hq:=Lib.hid (show(z1:Rat)/(z2:Rat)=0 by rw[e2,Rat.intCast_zero,Rat.div_def,Rat.inv_zero,Rat.mul_zero])
   have hm1:=Dg.lenp (by decide) ha1 (by omega)
   have hm2:n2=0:=Dg.len0 (by rw[e2] at ha2;exact ha2)
   clear e1 e2 hb1 hb2
   have st:=St.start w
   refine go2 (nt:=29) Tryz.func104 rfl rfl rfl fun a hF=>?_
   refine wq ?_
   refine bx st hF 0 rfl rfl fun g2 w1 a st hF=>?_
   refine bx st hF 2 rfl rfl fun g3 w2 a st hF=>?_
   refine S.alloc st hF ag rfl rfl fun g4 w3 a st hF=>?_
   refine ns ?_
   refine wq ?_
   refine oV hF (aA (hF.at 2 rfl) (cy (p:=1) rfl)) rfl fun a hF=>?_
   refine oV hF (av (hF.at 0 rfl) (cp (v:= .slice ad1 n1 c1) (st.b 2 rfl rfl) rfl)) rfl fun a hF=>?_
   refine oV hF (cr (aI (hF.at 0 rfl)) gD) rfl fun a hF=>?_
   refine oV hF (aq (hF.at 0 rfl) ao ab (aw (aX (c:=false) (jk (by omega))) (by simp))) rfl fun a hF=>?_
   refine oM hF 0 rfl rfl fun a hF=>?_
   refine E.opvg hF (aA (hF.at 6 rfl) (cy (p:=1) rfl)) (aa rfl rfl (hF.at 0 rfl) rfl) rfl rfl rfl fun a hF=>?_
   refine E.opvg hF (av (hF.at 0 rfl) (cp (v:= .slice ad2 n2 c2) (st.b 1 rfl rfl) rfl)) (aa rfl rfl (hF.at 1 rfl) rfl) rfl rfl rfl fun a hF=>?_
   refine E.opvg hF (cr (aI (hF.at 0 rfl)) gD) (aa rfl rfl (hF.at 2 rfl) rfl) rfl rfl rfl fun a hF=>?_
   refine E.opvg hF (aq (hF.at 0 rfl) ao ab (aw (aX (c:=true) (eq0 (by rw[hm2];rfl))) (by simp))) (aa rfl rfl (hF.at 3 rfl) rfl) rfl rfl rfl fun a hF=>?_
   refine oV hF (aQ (hF.at 4 rfl) (hF.at 0 rfl)) rfl fun a hF=>?_
   refine E.nil ?_
   refine wp_cond_true (hF.at 0 rfl) ?_
   refine wq ?_
   refine oV hF (bh (by simp) (lI _)) rfl fun a hF=>?_
   obtain⟨vv4,w5,hr,bb,hh6⟩:=sC w3
   refine oV hF (cY (fk ao) hr) rfl fun a hF=>?_
   replace st:=(st.to bb).add hh6 (Dg.cl _)
   clear hr bb hh6
   obtain⟨ad7,n7,c7,rfl⟩:=Dg.form (st.f 0 rfl)
   refine oV hF (bh (eL (hF.at 1 rfl) (hF.at 0 rfl)) (ii _ _ _ _ _ _ _ _)) rfl fun a hF=>?_
   refine so st hF 0 13 0 ag rfl rfl rfl rfl fun w8 a st hF=>?_
   refine nr ?_
   refine rs Tryz.results104 st hF 13 0 ag rfl rfl rfl ?_
   have bel:=st.bel
   have hh6:=(st.f 0 rfl)
   exact⟨_,rfl,Rr.mk (Rz.zero _) hh6 (by omega) (hq.out.trans (Rat.zero_mkRat 1).symm) (zn hk1) (Lim.one hk1),bel⟩
  ·have hq:=Lib.hid (show(z1:Rat)/(z2:Rat)=mkRat (sg (b1 !=b2) (Int.natAbs z1)) (Int.natAbs z2) by rw[hb1,hb2];exact(EY z1 z2 e2).symm)
   have hm1:=Dg.lenp (by decide) ha1 (by omega)
   have hm2:=Dg.lenp (by decide) ha2 (by omega)
   have hD:0<Int.natAbs z2:=by omega
   clear e1 e2 hb1 hb2
   have st:=St.start w
   refine go2 (nt:=29) Tryz.func104 rfl rfl rfl fun a hF=>?_
   refine wq ?_
   refine bx st hF 0 rfl rfl fun g2 w1 a st hF=>?_
   refine bx st hF 2 rfl rfl fun g3 w2 a st hF=>?_
   refine S.alloc st hF ag rfl rfl fun g4 w3 a st hF=>?_
   refine ns ?_
   refine wq ?_
   refine oV hF (aA (hF.at 2 rfl) (cy (p:=1) rfl)) rfl fun a hF=>?_
   refine oV hF (av (hF.at 0 rfl) (cp (v:= .slice ad1 n1 c1) (st.b 2 rfl rfl) rfl)) rfl fun a hF=>?_
   refine oV hF (cr (aI (hF.at 0 rfl)) gD) rfl fun a hF=>?_
   refine oV hF (aq (hF.at 0 rfl) ao ab (aw (aX (c:=false) (jk (by omega))) (by simp))) rfl fun a hF=>?_
   refine oM hF 0 rfl rfl fun a hF=>?_
   refine E.opvg hF (aA (hF.at 6 rfl) (cy (p:=1) rfl)) (aa rfl rfl (hF.at 0 rfl) rfl) rfl rfl rfl fun a hF=>?_
   refine E.opvg hF (av (hF.at 0 rfl) (cp (v:= .slice ad2 n2 c2) (st.b 1 rfl rfl) rfl)) (aa rfl rfl (hF.at 1 rfl) rfl) rfl rfl rfl fun a hF=>?_
   refine E.opvg hF (cr (aI (hF.at 0 rfl)) gD) (aa rfl rfl (hF.at 2 rfl) rfl) rfl rfl rfl fun a hF=>?_
   refine E.opvg hF (aq (hF.at 0 rfl) ao ab (aw (aX (c:=false) (jk (by omega))) (by simp))) (aa rfl rfl (hF.at 3 rfl) rfl) rfl rfl rfl fun a hF=>?_
   refine oV hF (aQ (hF.at 4 rfl) (hF.at 0 rfl)) rfl fun a hF=>?_
   refine E.nil ?_
   refine wp_cond_false (hF.at 0 rfl) ?_
   refine wp_skip ?_
   refine E.norm ?_
   refine wp_seq ?_
   refine E.drawn 11 aF hF [18,19,20,21,22,23,24,25,26,27,28] [(fun _ v=>v= .pointer (some ⟨g2,0,none⟩)),(fun _ v=>v= .bool b1),(fun _ v=>v= .pointer (some ⟨g3,0,none⟩)),(fun _ v=>v= .bool b2),(fun _ v=>v= .bool (b1 !=b2)),(fun _ v=>v= .pointer (some ⟨g2,1,none⟩)),(fun _ v=>v= .slice ad1 n1 c1),(fun w v=>Rz w v (sg ((b1 !=b2)) (Int.natAbs (z1)))),(fun _ v=>v= .pointer (some ⟨g3,1,none⟩)),(fun _ v=>v= .slice ad2 n2 c2),(fun w v=>Rr w v ((z1:Rat)/(z2:Rat)) (k))] [] (by decide+kernel) (by decide+kernel) rfl rfl rfl ⟨(Mb.eq _),(Mb.eq _),(Mb.eq _),(Mb.eq _),(Mb.eq _),(Mb.eq _),(Mb.eq _),(fun _ _ _ h hb=>h.below hb),(Mb.eq _),(Mb.eq _),(fun _ _ _ h hb=>h.below hb),trivial⟩ trivial ⟨?_,?_,?_,?_,?_,?_,?_,?_,?_,?_,?_,trivial⟩ ?_
   ·intro a' w' hF' hb hd
    exact dv0 (aA (hF'.at 12 rfl) (fh (p:=0) rfl)) rfl rfl rfl
   ·intro a' w' hF' hb hd
    have e18:=tE hd 0 rfl
    exact dv0 (av e18 (dP (v:= .bool b1) ((st.b 2 rfl rfl).below hb) rfl)) rfl rfl rfl
   ·intro a' w' hF' hb hd
    exact dv0 (aA (hF'.at 11 rfl) (fh (p:=0) rfl)) rfl rfl rfl
   ·intro a' w' hF' hb hd
    have e20:=tE hd 0 rfl
    exact dv0 (av e20 (dP (v:= .bool b2) ((st.b 1 rfl rfl).below hb) rfl)) rfl rfl rfl
   ·intro a' w' hF' hb hd
    have e19:=tE hd 0 rfl
    have e21:=tE hd 1 rfl
    exact dv0 (aq e19 e21 lr (mB (d:=(b1 !=b2)) rfl)) rfl rfl rfl
   ·intro a' w' hF' hb hd
    exact dv0 (aA (hF'.at 12 rfl) (cy (p:=1) rfl)) rfl rfl rfl
   ·intro a' w' hF' hb hd
    have e23:=tE hd 0 rfl
    exact dv0 (av e23 (cp (v:= .slice ad1 n1 c1) ((st.b 2 rfl rfl).below hb) rfl)) rfl rfl rfl
   ·intro a' w' hF' hb hd
    have e22:=tE hd 0 rfl
    have e24:=tE hd 1 rfl
    exact dc0 (rk wM (aC e22 e24)) (dD _ _ (Int.natAbs (z1)) _ (ha1.below (ar st.bel hb))) rfl rfl
   ·intro a' w' hF' hb hd
    exact dv0 (aA (hF'.at 11 rfl) (cy (p:=1) rfl)) rfl rfl rfl
   ·intro a' w' hF' hb hd
    have e26:=tE hd 0 rfl
    exact dv0 (av e26 (cp (v:= .slice ad2 n2 c2) ((st.b 1 rfl rfl).below hb) rfl)) rfl rfl rfl
   ·intro a' w' hF' hb hd
    obtain⟨v25_0,e25,h25_1⟩:=tH hd 0 rfl
    have e27:=tE hd 1 rfl
    obtain⟨b4,ad4,n4,c4,rfl⟩:=Rz.form h25_1
    exact dv0 (bh (eL e25 e27) (ii _ _ _ _ _ _ _ _)) (Rr.mk h25_1 (ha2.below (ar st.bel hb)) hD hq.out (eU _ l1) l2) rfl rfl
   intro a w5 hF bb hall hne
   replace st:=st.to bb
   obtain⟨vv6,hF,st⟩:=aS hall hF st 10 rfl rfl Rr.cl
   clear hall hne bb
   obtain⟨r8,rfl⟩:=Rr.fo (st.f 0 rfl)
   refine so st hF 0 11 0 ag rfl rfl rfl rfl fun w9 a st hF=>?_
   refine nr ?_
   refine rs Tryz.results104 st hF 11 0 ag rfl rfl rfl ?_
   have bel:=st.bel
   have hh7:=(st.f 0 rfl)
   exact⟨_,rfl,hh7,bel⟩
theorem j4 (v1:Value) (q1:Rat) (k:Nat) (w:World) (h1:Rr w v1 q1 k):
 Calls Tryz.prog 145 #[v1] w (bK w (-q1) k):=by
 obtain⟨b1,ad1,n1,c1,ae1,m1,d1,z1,D1,rfl,hn1,hd1,hD1,hq1,lz1,lD1⟩:=h1.shape
 have h1:Rr w (.agg #[.bool b1,.slice ad1 n1 c1,.slice ae1 m1 d1]) q1 k:=⟨_,_,_,_,_,_,_,_,_,rfl,hn1,hd1,hD1,hq1,lz1,lD1⟩
 have ha1:=hn1.abs
 have hb1:=hn1.neg
 replace hq1:=Lib.hid hq1
 have st:=St.start w
 refine go1 (nt:=9) Tryz.func145 rfl rfl rfl fun a hF=>?_
 refine wq ?_
 refine bx st hF 0 rfl rfl fun g1 w1 a st hF=>?_
 refine S.alloc st hF ag rfl rfl fun g2 w2 a st hF=>?_
 refine ns ?_
 refine E.drawn 6 aF hF [3,4,5,6,7,8] [(fun _ v=>v= .pointer (some ⟨g1,0,none⟩)),(fun _ v=>v= .agg #[.bool b1,.slice ad1 n1 c1]),(fun w v=>Rz w v (-(z1))),(fun _ v=>v= .pointer (some ⟨g1,2,none⟩)),(fun _ v=>v= .slice ae1 m1 d1),(fun w v=>Rr w v (-q1) (k))] [] (by decide+kernel) (by decide+kernel) rfl rfl rfl ⟨(Mb.eq _),(Mb.eq _),(fun _ _ _ h hb=>h.below hb),(Mb.eq _),(Mb.eq _),(fun _ _ _ h hb=>h.below hb),trivial⟩ trivial ⟨?_,?_,?_,?_,?_,?_,trivial⟩ ?_
 ·intro a' w' hF' hb hd
  exact dv0 (aA (hF'.at 1 rfl) (dF (p:=0) rfl)) rfl rfl rfl
 ·intro a' w' hF' hb hd
  have e3:=tE hd 0 rfl
  exact dv0 (av e3 (bJ (vs:=[.bool b1,.slice ad1 n1 c1]) ((st.b 1 rfl rfl).below hb) rfl rfl)) rfl rfl rfl
 ·intro a' w' hF' hb hd
  have e4:=tE hd 0 rfl
  exact dc0 (rk pz (aI e4)) (iI _ _ _ (hn1.below (ar st.bel hb))) rfl rfl
 ·intro a' w' hF' hb hd
  exact dv0 (aA (hF'.at 1 rfl) (dS (p:=2) rfl)) rfl rfl rfl
 ·intro a' w' hF' hb hd
  have e6:=tE hd 0 rfl
  exact dv0 (av e6 (cp (v:= .slice ae1 m1 d1) ((st.b 1 rfl rfl).below hb) rfl)) rfl rfl rfl
 ·intro a' w' hF' hb hd
  obtain⟨v5_0,e5,h5_1⟩:=tH hd 0 rfl
  have e7:=tE hd 1 rfl
  obtain⟨b3,ad3,n3,c3,rfl⟩:=Rz.form h5_1
  exact dv0 (bh (eL e5 e7) (ii _ _ _ _ _ _ _ _)) (Rr.mk h5_1 (hd1.below (ar st.bel hb)) hD1 (by rw[hq1.out,Rat.neg_mkRat]) (jW lz1) lD1) rfl rfl
 intro a w4 hF bb hall hne
 replace st:=st.to bb
 obtain⟨vv5,hF,st⟩:=aS hall hF st 5 rfl rfl Rr.cl
 clear hall hne bb
 obtain⟨r7,rfl⟩:=Rr.fo (st.f 0 rfl)
 refine so st hF 0 1 0 ag rfl rfl rfl rfl fun w8 a st hF=>?_
 refine nr ?_
 refine rs Tryz.results145 st hF 1 0 ag rfl rfl rfl ?_
 have bel:=st.bel
 have hh6:=(st.f 0 rfl)
 exact⟨_,rfl,hh6,bel⟩
theorem fT (v1:Value) (q1:Rat) (k:Nat) (w:World) (h1:Rr w v1 q1 k):
 Calls Tryz.prog 193 #[v1] w (gN w (sz q1.num)):=by
 obtain⟨b1,ad1,n1,c1,ae1,m1,d1,z1,D1,rfl,hn1,hd1,hD1,hq1,lz1,lD1⟩:=h1.shape
 have h1:Rr w (.agg #[.bool b1,.slice ad1 n1 c1,.slice ae1 m1 d1]) q1 k:=⟨_,_,_,_,_,_,_,_,_,rfl,hn1,hd1,hD1,hq1,lz1,lD1⟩
 have ha1:=hn1.abs
 have hb1:=hn1.neg
 replace hq1:=Lib.hid hq1
 have st:=St.start w
 refine go1 (nt:=6) Tryz.func193 rfl rfl rfl fun a hF=>?_
 refine wq ?_
 refine bx st hF 0 rfl rfl fun g1 w1 a st hF=>?_
 refine oC hF rfl fun a hF=>?_
 refine nq ?_
 refine oV hF (aA (hF.at 1 rfl) (dF (p:=0) rfl)) rfl fun a hF=>?_
 refine oV hF (av (hF.at 0 rfl) (bJ (vs:=[.bool b1,.slice ad1 n1 c1]) (st.b 0 rfl rfl) rfl rfl)) rfl fun a hF=>?_
 refine cX st hF (rk pl (aI (hF.at 0 rfl))) (gU _ _ _ (hn1.below st.bel)) rfl fun w2 a st hF=>?_
 refine oE hF 0 rfl rfl fun a hF=>?_
 refine nr ?_
 have bel:=st.bel
 refine rt Tryz.results193 hF 0 rfl ?_
 exact⟨by rw[hq1.out,←GP hD1],bel⟩
theorem zt {z:Int}:sz z<0↔z<0:=by unfold sz;split <;> (try split) <;> omega
theorem vR {q:Rat} (h:sz q.num<0): -q=Rat.abs q:=by
 have h1:=zt.1 h
 rw[Rat.abs_of_nonpos]
 exact Rat.not_lt.1 (fun h2=>by have:=Rat.num_nonneg.2 (Rat.le_of_lt h2);omega)
theorem xy {q:Rat} (h:¬sz q.num<0):q=Rat.abs q:=by
 have h1:0≤q.num:=by
  rcases Int.lt_or_le q.num 0 with e|e
  ·exact absurd (zt.2 e) h
  ·exact e
 rw[Rat.abs_of_nonneg (Rat.num_nonneg.1 h1)]
theorem lJ (v1:Value) (q1:Rat) (k:Nat) (w:World) (h1:Rr w v1 q1 k):
 Calls Tryz.prog 191 #[v1] w (bK w (Rat.abs q1) k):=by
 obtain⟨b1,ad1,n1,c1,ae1,m1,d1,z1,D1,rfl,hn1,hd1,hD1,hq1,lz1,lD1⟩:=h1.shape
 have h1:Rr w (.agg #[.bool b1,.slice ad1 n1 c1,.slice ae1 m1 d1]) q1 k:=⟨_,_,_,_,_,_,_,_,_,rfl,hn1,hd1,hD1,hq1,lz1,lD1⟩
 have ha1:=hn1.abs
 have hb1:=hn1.neg
 replace hq1:=Lib.hid hq1
 by_cases hs:sz (Rat.num (q1))<0
 ·have HA:=Lib.hid (vR hs)
  have st:=St.start w
  refine go1 (nt:=9) Tryz.func191 rfl rfl rfl fun a hF=>?_
  refine wq ?_
  refine bx st hF 0 rfl rfl fun g1 w1 a st hF=>?_
  refine S.alloc st hF ag rfl rfl fun g2 w2 a st hF=>?_
  refine ns ?_
  refine wq ?_
  refine oL hF st 1 1 ag rfl rfl rfl rfl fun a hF=>?_
  refine cX st hF (rk rx (aI (hF.at 0 rfl))) (fT _ (q1) k _ (h1.below st.bel)) rfl fun w3 a st hF=>?_
  refine oV hF (aq (hF.at 0 rfl) ao ab (aw (a6 (c:=true) (CU hs)) (by simp))) rfl fun a hF=>?_
  refine E.nil ?_
  refine wp_cond_true (hF.at 0 rfl) ?_
  refine wq ?_
  refine oL hF st 4 1 ag rfl rfl rfl rfl fun a hF=>?_
  refine ca st hF (rk CN (aI (hF.at 0 rfl))) (j4 _ (q1) k _ (h1.below st.bel)) (fun _ _ h=>h) Rr.cl rfl fun vv5 w4 a st hF=>?_
  obtain⟨r7,rfl⟩:=Rr.fo (st.f 0 rfl)
  refine so st hF 0 5 0 ag rfl rfl rfl rfl fun w8 a st hF=>?_
  refine nr ?_
  refine rs Tryz.results191 st hF 5 0 ag rfl rfl rfl ?_
  have bel:=st.bel
  have hh6:=(st.f 0 rfl)
  exact⟨_,rfl,Rr.cast hh6 HA.out,bel⟩
 ·have HA:=Lib.hid (xy hs)
  have st:=St.start w
  refine go1 (nt:=9) Tryz.func191 rfl rfl rfl fun a hF=>?_
  refine wq ?_
  refine bx st hF 0 rfl rfl fun g1 w1 a st hF=>?_
  refine S.alloc st hF ag rfl rfl fun g2 w2 a st hF=>?_
  refine ns ?_
  refine wq ?_
  refine oL hF st 1 1 ag rfl rfl rfl rfl fun a hF=>?_
  refine cX st hF (rk rx (aI (hF.at 0 rfl))) (fT _ (q1) k _ (h1.below st.bel)) rfl fun w3 a st hF=>?_
  refine oV hF (aq (hF.at 0 rfl) ao ab (aw (a6 (c:=false) (CB hs)) (by simp))) rfl fun a hF=>?_
  refine E.nil ?_
  refine wp_cond_false (hF.at 0 rfl) ?_
  refine wp_skip ?_
  refine E.norm ?_
  refine wq ?_
  refine oL hF st 4 1 ag rfl rfl rfl rfl fun a hF=>?_
  refine so st hF 0 4 0 ag rfl rfl rfl rfl fun w4 a st hF=>?_
  refine nr ?_
  refine rs Tryz.results191 st hF 4 0 ag rfl rfl rfl ?_
  have bel:=st.bel
  have h1:=(h1.below st.bel)
  exact⟨_,rfl,Rr.cast h1 HA.out,bel⟩
theorem tM {n:Int} (h0: -9223372036854775808<n) (h1:n≤9223372036854775807):Lim n.natAbs 2:=Lim.of64 (by omega)
theorem bi (n d:Int) (w:World) (b1: -9223372036854775808<n) (b2:n≤9223372036854775807) (b3: -9223372036854775808<d) (b4:d≤9223372036854775807):
 Calls Tryz.prog 38 #[.int .i64 n,.int .i64 d] w (bK w ((n:Rat)/(d:Rat)) 2):=by
 have st:=St.start w
 refine go2 (nt:=10) Tryz.func38 rfl rfl rfl fun a hF=>?_
 refine wq ?_
 refine S.alloc st hF ag rfl rfl fun g4 w1 a st hF=>?_
 refine nq ?_
 refine oM hF 1 rfl rfl fun a hF=>?_
 refine ca st hF (rk wK (aI (hF.at 0 rfl))) (p8 n _ b1 b2) (fun _ _ h=>h) Rz.cl rfl fun vv3 w2 a st hF=>?_
 obtain⟨b5,ad5,n5,c5,rfl⟩:=Rz.form (st.f 0 rfl)
 refine oM hF 4 rfl rfl fun a hF=>?_
 refine ca st hF (rk wK (aI (hF.at 0 rfl))) (p8 d _ b3 b4) (fun _ _ h=>h) Rz.cl rfl fun vv7 w6 a st hF=>?_
 obtain⟨b9,ad9,n9,c9,rfl⟩:=Rz.form (st.f 0 rfl)
 refine ca st hF (rk pg (aC (hF.at 2 rfl) (hF.at 0 rfl))) (kW _ _ (n) (d) 2 _ (st.f 1 rfl) (st.f 0 rfl) (Lim.up (tM b1 b2) _ (by omega)) (Lim.up (tM b3 b4) _ (by omega)) (by omega)) (fun _ _ h=>h) Rr.cl rfl fun vv11 w10 a st hF=>?_
 obtain⟨r13,rfl⟩:=Rr.fo (st.f 0 rfl)
 refine so st hF 0 5 0 ag rfl rfl rfl rfl fun w14 a st hF=>?_
 refine nr ?_
 refine rs Tryz.results38 st hF 5 0 ag rfl rfl rfl ?_
 have bel:=st.bel
 have hh12:=(st.f 0 rfl)
 exact⟨_,rfl,hh12,bel⟩
end
section
end
end
end Go.Proofs.YtnljadejcfgmaaaGreatDoor
