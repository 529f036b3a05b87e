import Derived.Test.YtnljadejcfgmaaaGreatDoorKC9
import Derived.Test.YtnljadejcfgmaaaGreatDoorKC15
namespace Go.Proofs.YtnljadejcfgmaaaGreatDoor
open Go.RowKit
set_option maxRecDepth 100000
set_option linter.unusedVariables false
set_option maxHeartbeats 8000000
section
section
theorem Dg.len {w:World} {k:IntKind} {b:Nat} {ad:Option Addr} {m c N:Nat} (h:Dg w k b (.slice ad m c) N):m=dl b N:=by
 obtain⟨ad',cap,h1,_⟩:=h
 rw[length_dg] at h1
 injection h1
theorem Dg.len0 {w:World} {k:IntKind} {b:Nat} {ad:Option Addr} {m c:Nat} (h:Dg w k b (.slice ad m c) 0):m=0:=by rw[h.len,dl_zero]
theorem Dg.lenp {w:World} {k:IntKind} {b:Nat} (hb:2≤b) {ad:Option Addr} {m c N:Nat} (h:Dg w k b (.slice ad m c) N) (hN:0<N):0<m:=by rw[h.len];exact dl_pos hb hN
theorem Wc.cast {w:World} {v:Value} {z z':Int} (h:Wc w v z) (e:z=z'):Wc w v z':=by subst e;exact h
def dn (q:Rat):Nat:=if q=0 then 0 else q.den
theorem dn_zero:dn 0=0:=if_pos rfl
theorem dn_of {q:Rat} (h:q≠0):dn q=q.den:=if_neg h
def Rq (w:World) (v:Value) (q:Rat):Prop:=
 ∃b ad n c ae m d,v= .agg #[.bool b,.slice ad n c,.slice ae m d]∧Wc w (.agg #[.bool b,.slice ad n c]) q.num∧Dg w .u32 B32 (.slice ae m d) (dn q)
def RqPost (w:World) (q:Rat) (e:Ending) (w':World):Prop:=∃v,e= .returned v∧Rq w' v q∧Below w.heap.size w w'
theorem Rq.shape {w:World} {v:Value} {q:Rat} (h:Rq w v q):∃b ad n c ae m d,v= .agg #[.bool b,.slice ad n c,.slice ae m d]∧Wc w (.agg #[.bool b,.slice ad n c]) q.num∧Dg w .u32 B32 (.slice ae m d) (dn q):=h
theorem Rq.form {w:World} {v:Value} {q:Rat} (h:Rq w v q):∃b ad n c ae m d,v= .agg #[.bool b,.slice ad n c,.slice ae m d]:=by
 obtain⟨b,ad,n,c,ae,m,d,h1,_⟩:=h
 exact⟨b,ad,n,c,ae,m,d,h1⟩
theorem Rq.below {w w':World} {v:Value} {q:Rat} (h:Rq w v q) (hb:Below w.heap.size w w'):Rq w' v q:=by
 obtain⟨b,ad,n,c,ae,m,d,h1,h2,h3⟩:=h
 exact⟨b,ad,n,c,ae,m,d,h1,h2.below hb,h3.below hb⟩
theorem Rq.keep {w w':World} {v:Value} {q:Rat} (h:Rq w v q) (kp:Keep w w'):Rq w' v q:=by
 obtain⟨b,ad,n,c,ae,m,d,h1,h2,h3⟩:=h
 exact⟨b,ad,n,c,ae,m,d,h1,h2.keep kp,h3.keep kp⟩
theorem num_ne {q:Rat} (h:q.num≠0):q≠0:=fun e=>h (by rw[e];rfl)
theorem ne_num {q:Rat} (h:q≠0):q.num≠0:=fun e=>h (Rat.num_eq_zero.1 e)
theorem Rq.zero (w:World):Rq w (.agg #[.bool false,.slice none 0 0,.slice none 0 0]) 0:=
 ⟨false,none,0,0,none,0,0,rfl,Wc.zero w,by rw[dn_zero];exact Dg.nil w⟩
theorem Rq.mk {w:World} {b:Bool} {ad ae:Option Addr} {n c m d N D:Nat} {q:Rat} (h1:Dg w .u32 B32 (.slice ad n c) N) (h2:Dg w .u32 B32 (.slice ae m d) D) (hN:N≠0) (hz:sg b N=q.num) (hd:D=q.den):
 Rq w (.agg #[.bool b,.slice ad n c,.slice ae m d]) q:=by
 have hp:0<N:=by omega
 have hne:q.num≠0:=by rw[←hz];intro e;have:=congrArg Int.natAbs e;rw[sg_natAbs] at this;simp at this;omega
 have hw:Wc w (.agg #[.bool b,.slice ad n c]) (sg b N):=by
  have:=Wc.sg (neg:=b) h1 hp
  exact this
 rw[hz] at hw
 exact⟨b,ad,n,c,ae,m,d,rfl,hw,by rw[dn_of (num_ne hne),←hd];exact h2⟩
theorem sz_sg0 {b:Bool} {N:Nat} (h:N=0):sz (sg b N)=0:=by subst h;rw[sg_zero];rfl
theorem sz_sgp {b:Bool} {N:Nat} (h:N≠0):sz (sg b N)≠0:=by
 unfold sz sg
 cases b <;> simp <;> (repeat' split) <;> omega
theorem sz_eq0 {z:Int}:sz z=0↔z=0:=by
 unfold sz;split <;> (try split) <;> simp_all
theorem eq0f {x:Int} (h:x≠0):decide (x=0)=false:=decide_eq_false h
def RLim (q:Rat) (k:Nat):Prop:=Lim q.num.natAbs k∧Lim q.den k
theorem Lim.one {k:Nat} (hk:1≤k):Lim 1 k:=Nat.lt_of_lt_of_le (by decide:1<B32^1) (Nat.pow_le_pow_right B32_pos hk)
theorem div_lim {a b k:Nat} (h:Lim a k):Lim (a/b) k:=h.le (Nat.div_le_self a b)
theorem div_parts (b1 b2:Bool) (N M:Nat) (hM:M≠0):sg (b1 !=b2) (N/Nat.gcd N M)=((sg b1 N:Rat)/(sg b2 M:Rat)).num ∧(N/Nat.gcd N M≠0→M/Nat.gcd N M=((sg b1 N:Rat)/(sg b2 M:Rat)).den):=by
 have e:((sg b1 N:Rat)/(sg b2 M:Rat))=mkRat (sg (b1 !=b2) N) M:=by
  rw[←Rat.divInt_eq_div]
  cases b1 <;> cases b2 <;> simp[sg,Rat.divInt_neg',Rat.divInt_ofNat]
 rw[e,Rat.num_mkRat,Rat.den_mkRat,if_neg hM,if_neg hM,sg_natAbs,Nat.gcd_comm M N]
 refine⟨?_,fun _=>rfl⟩
 have hg:=Nat.gcd_dvd_left N M
 obtain⟨t,ht⟩:=hg
 generalize Nat.gcd N M=g at*
 subst ht
 by_cases hg0:g=0
 ·subst hg0;simp[sg]
 ·have hgp:0<g:=by omega
  rw[Nat.mul_div_cancel_left t hgp]
  unfold sg
  split
  ·have:(-(((g*t:Nat):Int)))=(g:Int)*(-(t:Int)):=by rw[Int.mul_neg];simp
   rw[this,Int.mul_ediv_cancel_left _ (by omega)]
  ·have:(((g*t:Nat):Int))=(g:Int)*(t:Int):=by simp
   rw[this,Int.mul_ediv_cancel_left _ (by omega)]
theorem sg_dec (z:Int):sg (decide (z<0)) z.natAbs=z:=sg_self z
theorem sg_tdiv (b:Bool) (N g:Nat):(sg b N).tdiv (g:Int)=sg b (N/g):=by
 unfold sg;cases b <;> simp
theorem sg_edvd (b:Bool) {N g:Nat} (h:g ∣ N):sg b N/(g:Int)=sg b (N/g):=by
 obtain⟨t,rfl⟩:=h
 by_cases hg0:g=0
 ·subst hg0;simp[sg]
 ·have hgp:0<g:=by omega
  rw[Nat.mul_div_cancel_left t hgp]
  unfold sg
  split
  ·have:(-(((g*t:Nat):Int)))=(g:Int)*(-(t:Int)):=by rw[Int.mul_neg];simp
   rw[this,Int.mul_ediv_cancel_left _ (by omega)]
  ·have:(((g*t:Nat):Int))=(g:Int)*(t:Int):=by simp
   rw[this,Int.mul_ediv_cancel_left _ (by omega)]
theorem add_parts (a b:Rat):
 sg (decide (a.num*((b.den/Nat.gcd a.den b.den:Nat):Int)+b.num*((a.den/Nat.gcd a.den b.den:Nat):Int)<0)) ((a.num*((b.den/Nat.gcd a.den b.den:Nat):Int)+b.num*((a.den/Nat.gcd a.den b.den:Nat):Int)).natAbs /Nat.gcd (a.num*((b.den/Nat.gcd a.den b.den:Nat):Int)+b.num*((a.den/Nat.gcd a.den b.den:Nat):Int)).natAbs (Nat.gcd a.den b.den))=(a+b).num ∧
 (a.den/Nat.gcd a.den b.den)*(b.den/Nat.gcd (a.num*((b.den/Nat.gcd a.den b.den:Nat):Int)+b.num*((a.den/Nat.gcd a.den b.den:Nat):Int)).natAbs (Nat.gcd a.den b.den))=(a+b).den :=by
 have haux:=Rat.add.aux a b (g:=Nat.gcd a.den b.den) (ad:=a.den/Nat.gcd a.den b.den) (bd:=b.den/Nat.gcd a.den b.den) rfl rfl rfl
 dsimp only at haux
 have hg:Nat.gcd a.den b.den≠0:=Nat.gcd_ne_zero_left a.den_nz
 have e1:a.den/Nat.gcd a.den b.den*Nat.gcd a.den b.den=a.den:=Nat.div_mul_cancel (Nat.gcd_dvd_left _ _)
 have e2:b.den/Nat.gcd a.den b.den*Nat.gcd a.den b.den=b.den:=Nat.div_mul_cancel (Nat.gcd_dvd_right _ _)
 have hd2:Nat.gcd a.den b.den ∣ b.den:=Nat.gcd_dvd_right _ _
 have hd0:a.den/Nat.gcd a.den b.den*b.den≠0:=Nat.mul_ne_zero (fun e=>a.den_nz (by rw[←e1,e,Nat.zero_mul])) b.den_nz
 have key:a+b=mkRat (a.num*((b.den/Nat.gcd a.den b.den:Nat):Int)+b.num*((a.den/Nat.gcd a.den b.den:Nat):Int)) (a.den/Nat.gcd a.den b.den*b.den):=by
  rw[Rat.add_def',←Rat.mkRat_mul_right hg (n:=a.num*((b.den/Nat.gcd a.den b.den:Nat):Int)+b.num*((a.den/Nat.gcd a.den b.den:Nat):Int))]
  congr 1
  ·rw[Int.add_mul,Int.mul_assoc,Int.mul_assoc,Int.ofNat_mul_ofNat,Int.ofNat_mul_ofNat,e1,e2]
  ·rw[Nat.mul_right_comm,e1]
 generalize a.num*((b.den/Nat.gcd a.den b.den:Nat):Int)+b.num*((a.den/Nat.gcd a.den b.den:Nat):Int)=S at*
 generalize Nat.gcd a.den b.den=g at*
 rw[key,Rat.num_mkRat,Rat.den_mkRat,if_neg hd0,if_neg hd0,Nat.gcd_comm _ S.natAbs,←haux]
 refine⟨?_,?_⟩
 ·have:=sg_edvd (decide (S<0)) (Nat.gcd_dvd_left S.natAbs g)
  rw[sg_dec] at this
  exact this.symm
 ·rw[Nat.mul_div_assoc _ (Nat.dvd_trans (Nat.gcd_dvd_right S.natAbs g) hd2)]
theorem mul_parts (a b:Rat):
 sg (decide (a.num<0) !=decide (b.num<0)) (a.num.natAbs/Nat.gcd a.num.natAbs b.den*(b.num.natAbs/Nat.gcd b.num.natAbs a.den))=(a*b).num ∧
 a.den/Nat.gcd b.num.natAbs a.den*(b.den/Nat.gcd a.num.natAbs b.den)=(a*b).den :=by
 have e1:(a*b).num =a.num.tdiv (Nat.gcd a.num.natAbs b.den:Nat)*b.num.tdiv (Nat.gcd b.num.natAbs a.den:Nat):=by
  show(Rat.mul a b).num =_
  delta Rat.mul
  simp only [Int.divExact_eq_tdiv]
 have e2:(a*b).den =a.den/Nat.gcd b.num.natAbs a.den*(b.den/Nat.gcd a.num.natAbs b.den):=by
  show(Rat.mul a b).den =_
  delta Rat.mul
  simp only [Nat.divExact_eq_div]
 refine⟨?_,e2.symm⟩
 rw[e1]
 have h1:=sg_tdiv (decide (a.num<0)) a.num.natAbs (Nat.gcd a.num.natAbs b.den)
 have h2:=sg_tdiv (decide (b.num<0)) b.num.natAbs (Nat.gcd b.num.natAbs a.den)
 rw[sg_dec] at h1 h2
 rw[h1,h2,←sg_mul]
 rfl
theorem inv_parts {a:Rat} (h:a≠0):sg (decide (a.num<0)) a.den=(a⁻¹).num ∧a.num.natAbs=(a⁻¹).den :=by
 have hn:=ne_num h
 rw[Rat.num_inv,Rat.den_inv,if_neg hn]
 refine⟨?_,rfl⟩
 unfold sg
 by_cases hl:a.num<0
 ·rw[if_pos (by simpa using hl),Int.sign_eq_neg_one_of_neg hl];omega
 ·rw[if_neg (by simpa using hl),Int.sign_eq_one_of_pos (by omega)];omega
theorem rlim_mk {z:Int} {d k:Nat} (h1:Lim z.natAbs k) (h2:Lim d k) (hd:d≠0):RLim (mkRat z d) k:=by
 refine⟨h1.le ?_,h2.le ?_⟩
 ·rw[Rat.num_mkRat,if_neg hd,Int.natAbs_ediv_of_dvd (by rw[Int.ofNat_dvd_left];exact Nat.gcd_dvd_right _ _)]
  exact Nat.div_le_self _ _
 ·rw[Rat.den_mkRat,if_neg hd];exact Nat.div_le_self _ _
theorem RLim.up {q:Rat} {a:Nat} (h:RLim q a) (b:Nat) (hl:a≤b):RLim q b:=⟨h.1.up b hl,h.2.up b hl⟩
theorem rlim_add {a b:Rat} {k l:Nat} (h1:RLim a k) (h2:RLim b l):RLim (a+b) (k+l+1):=by
 rw[Rat.add_def']
 refine rlim_mk ?_ ((h1.2.mul h2.2).up _ (by omega)) (Nat.mul_ne_zero a.den_nz b.den_nz)
 refine limz_add (a:=k+l) (b:=k+l) ?_ ?_ _ (by omega) (by omega)
 ·rw[Int.natAbs_mul];exact h1.1.mul h2.2
 ·rw[Int.natAbs_mul];exact(h2.1.mul h1.2).up _ (by omega)
theorem rlim_neg {a:Rat} {k:Nat} (h:RLim a k):RLim (-a) k:=⟨by rw[Rat.neg_num,Int.natAbs_neg];exact h.1,h.2⟩
theorem rlim_sub {a b:Rat} {k l:Nat} (h1:RLim a k) (h2:RLim b l):RLim (a-b) (k+l+1):=by
 rw[Rat.sub_eq_add_neg];exact rlim_add h1 (rlim_neg h2)
theorem rlim_mul {a b:Rat} {k l:Nat} (h1:RLim a k) (h2:RLim b l):RLim (a*b) (k+l):=by
 rw[Rat.mul_def']
 exact rlim_mk (by rw[Int.natAbs_mul];exact h1.1.mul h2.1) (h1.2.mul h2.2) (Nat.mul_ne_zero a.den_nz b.den_nz)
theorem rlim_inv {a:Rat} {k:Nat} (h:RLim a k):RLim a⁻¹ k:=by
 by_cases h0:a=0
 ·subst h0;rw[Rat.inv_zero];exact h
 ·obtain⟨e1,e2⟩:=inv_parts h0
  exact⟨by rw[←e1,sg_natAbs];exact h.2,by rw[←e2];exact h.1⟩
theorem rlim_div {a b:Rat} {k l:Nat} (h1:RLim a k) (h2:RLim b l):RLim (a/b) (k+l):=by
 rw[Rat.div_def];exact rlim_mul h1 (rlim_inv h2)
theorem rlim_int {z:Int} {k:Nat} (h:Lim z.natAbs k) (hk:1≤k):RLim (z:Rat) k:=⟨h,Lim.one hk⟩
theorem rlim_zero {k:Nat} (hk:1≤k):RLim 0 k:=⟨Nat.lt_of_lt_of_le (by decide:0<B32^1) (Nat.pow_le_pow_right B32_pos hk),Lim.one hk⟩
theorem rlim_abs {a:Rat} {k:Nat} (h:RLim a k):RLim a.abs k:=by
 unfold Rat.abs;split
 ·exact h
 ·exact rlim_neg h
end
section
theorem Dg.cl {k:IntKind} {b n:Nat} (v:Value):Cl fun w=>Dg w k b v n:=fun _ _ h kp=>Dg.keep h kp
theorem Rq.cl {q:Rat} (v:Value):Cl fun w=>Rq w v q:=fun _ _ h kp=>h.keep kp
theorem Wc.cl {z:Int} (v:Value):Cl fun w=>Wc w v z:=fun _ _ h kp=>h.keep kp
theorem ty_Rat:Ty Tryz.prog 33 3 [.bool false,.slice none 0 0,.slice none 0 0]:=⟨⟨_,Tryz.underlying33,rfl⟩,sz_Rat,ze_Rat⟩
theorem ty_Int:Ty Tryz.prog 31 2 [.bool false,.slice none 0 0]:=⟨⟨_,Tryz.underlying31,rfl⟩,sz_Int,ze_Int⟩
end
section
theorem rby_any (v1 v2:Value) (N M:Nat) (w:World) (h1:Nt w v1 N) (h2:Nt w v2 M):
 Calls Tryz.prog 118 #[v1,v2] w (DgPost w (N/M)):=by
 have st:=St.start w
 refine E.enter (nt:=14) (L:=[(0,v1),(1,v2)]) Tryz.func118 rfl rfl rfl (args_cons (i:=0) rfl (args_cons (i:=1) rfl args_nil)) ?_
 intro a hF
 refine wp_seq ?_
 refine E.seq ?_
 refine E.opv hF (r_assign ev_c) rfl rfl rfl rfl fun a hF=>?_
 refine E.nil ?_
 refine wp_seq ?_
 refine E.seq ?_
 refine E.opv hF (r_move (hF.at 1 rfl)) rfl rfl rfl rfl fun a hF=>?_
 refine E.opv hF (r_move (hF.at 3 rfl)) rfl rfl rfl rfl fun a hF=>?_
 refine S.call2 st hF (r_call Tryz.func166 en166.1 en166.2 (map2 (hF.at 1 rfl) (hF.at 0 rfl))) (divMod_any _ _ N M _ (h1.below st.bel) (h2.below st.bel)) (fun _ _ h=>h) Dg.cl Dg.cl rfl rfl rfl rfl fun vv2 vv3 w1 a st hF=>?_
 obtain⟨ad6,n6,c6,rfl⟩:=Dg.form (st.f 0 rfl)
 obtain⟨ad7,n7,c7,rfl⟩:=Dg.form (st.f 1 rfl)
 refine E.opv hF (r_move (hF.at 0 rfl)) rfl rfl rfl rfl fun a hF=>?_
 refine E.opv hF (r_extract (v:= .slice ad6 n6 c6) (hF.at 0 rfl) rfl) rfl rfl rfl rfl fun a hF=>?_
 refine E.opv hF (r_extract (v:= .slice ad7 n7 c7) (hF.at 1 rfl) rfl) rfl rfl rfl rfl fun a hF=>?_
 refine E.opv hF (r_assign (hF.at 1 rfl)) rfl rfl rfl rfl fun a hF=>?_
 refine E.opv hF (r_assign (hF.at 1 rfl)) rfl rfl rfl rfl fun a hF=>?_
 refine E.nil ?_
 refine wp_seq ?_
 refine E.seq ?_
 refine E.opv hF (r_move (hF.at 1 rfl)) rfl rfl rfl rfl fun a hF=>?_
 refine E.opset (L':=[(4,.slice ad6 n6 c6),(13,.slice ad6 n6 c6),(6,.slice ad7 n7 c7),(5,.slice ad6 n6 c6),(12,.slice ad7 n7 c7),(11,.slice ad6 n6 c6),(7,.tuple #[.slice ad6 n6 c6,.slice ad7 n7 c7]),(10,.tuple #[.slice ad6 n6 c6,.slice ad7 n7 c7]),(9,v2),(8,v1),(0,v1),(1,v2)]) hF (r_assign (hF.at 0 rfl)) rfl rfl rfl rfl fun a hF=>?_
 refine E.nil ?_
 refine wp_ret ?_
 have bel:=st.bel
 refine bodyPost_ret (res_tmp Tryz.results118 (hF.at 0 rfl)) hF.dfr ?_
 have hh4:=(st.f 0 rfl)
 exact⟨_,rfl,hh4,bel⟩
theorem rtimes_any (v1 v2:Value) (z:Int) (N j k:Nat) (w:World) (h1:Wz w v1 z) (h2:Nt w v2 N) (l1:Lim z.natAbs j) (l2:Lim N k) (hj:j≤1000000) (hk:k≤1000000):
 Calls Tryz.prog 93 #[v1,v2] w (WcPost w (z*(N:Int))):=by
 obtain⟨neg1,ad1,n1,c1,N1,rfl,hN1,rfl⟩:=h1.shape
 have h1:Wz w (.agg #[.bool neg1,.slice ad1 n1 c1]) (sg neg1 N1):=⟨_,_,_,rfl,hN1,rfl⟩
 obtain⟨ad2,n2,c2,rfl⟩:=h2.form
 have st:=St.start w
 refine E.enter (nt:=9) (L:=[(0,.agg #[.bool neg1,.slice ad1 n1 c1]),(1,.slice ad2 n2 c2)]) Tryz.func93 rfl rfl rfl (args_cons (i:=0) rfl (args_cons (i:=1) rfl args_nil)) ?_
 intro a hF
 refine wp_seq ?_
 refine E.seq ?_
 refine S.box st hF (hF.at 0 rfl) rfl rfl fun g2 w1 a st hF=>?_
 refine S.alloc st hF ty_Int rfl rfl fun g4 w2 a st hF=>?_
 refine E.nil ?_
 refine wp_seq ?_
 refine E.seq ?_
 refine E.opv hF (r_load (hF.at 1 rfl) (ld_all ty_Int (st.bk 1 rfl) rfl)) rfl rfl rfl rfl fun a hF=>?_
 refine E.opv hF (r_move (hF.at 4 rfl)) rfl rfl rfl rfl fun a hF=>?_
 refine E.opv hF (r_build (pair1 (hF.at 0 rfl)) (bd_Int_1 _ _ _ _)) rfl rfl rfl rfl fun a hF=>?_
 refine S.call st hF (r_call Tryz.func150 en150.1 en150.2 (map2 (hF.at 2 rfl) (hF.at 0 rfl))) (whMul_any _ _ _ _ j k _ (h1.below st.bel) (Wz.mk (h2.below st.bel)) l1 (sg_lim _ l2) (by omega) (by omega)) (fun _ _ h=>h) Wc.cl rfl rfl rfl rfl fun vv4 w3 a st hF=>?_
 obtain⟨ad6,n6,c6,rfl,_⟩:=Wc.shape (st.f 0 rfl)
 refine S.sto st hF 0 rfl (hF.at 4 rfl) (hF.at 0 rfl) ty_Int rfl rfl rfl rfl fun w7 a st hF=>?_
 have hf8:=Wc.abs (st.f 0 rfl)
 replace st:=st.add hf8 (Dg.cl _)
 clear hf8
 refine E.nil ?_
 refine wp_ret ?_
 refine S.ret Tryz.results93 st hF (hF.at 4 rfl) 0 rfl ty_Int rfl hF.dfr ?_
 have bel:=st.bel
 have hh5:=(st.f 1 rfl)
 exact⟨_,rfl,hh5,bel⟩
theorem rbelow_any (v1:Value) (q1:Rat) (w:World) (h1:Rq w v1 q1):
 Calls Tryz.prog 94 #[v1] w (DgPost w (q1.den)):=by
 obtain⟨b1,ad1,n1,c1,ae1,m1,d1,rfl,hn1,hd1⟩:=h1.shape
 have h1:Rq w (.agg #[.bool b1,.slice ad1 n1 c1,.slice ae1 m1 d1]) q1:=⟨_,_,_,_,_,_,_,rfl,hn1,hd1⟩
 have ha1:=hn1.abs
 have hb1:=hn1.neg
 by_cases h0:q1=0
 ·subst h0
  rw[dn_zero] at hd1
  have hm:=hd1.len0
  clear h1
  have st:=St.start w
  refine E.enter (nt:=10) (L:=[(0,.agg #[.bool b1,.slice ad1 n1 c1,.slice ae1 m1 d1])]) Tryz.func94 rfl rfl rfl (args_cons (i:=0) rfl args_nil) ?_
  intro a hF
  refine wp_seq ?_
  refine E.seq ?_
  refine S.box st hF (hF.at 0 rfl) rfl rfl fun g1 w1 a st hF=>?_
  refine E.opv hF (r_assign ev_c) rfl rfl rfl rfl fun a hF=>?_
  refine E.nil ?_
  refine wp_seq ?_
  refine wp_seq ?_
  refine E.seq ?_
  refine E.opv hF (r_field (hF.at 1 rfl) (fa_Rat_1 (p:=2) rfl)) rfl rfl rfl rfl fun a hF=>?_
  refine E.opv hF (r_load (hF.at 0 rfl) (ld_Nat (v:= .slice ae1 m1 d1) (st.b 0 rfl rfl) rfl)) rfl rfl rfl rfl fun a hF=>?_
  refine E.opv hF (r_builtin (map1 (hF.at 0 rfl)) bl_nat) rfl rfl rfl rfl fun a hF=>?_
  refine E.opv hF (r_bin (hF.at 0 rfl) ev_c eg_scalar (bi_int (ic_eql (c:=true) (eq0 (by rw[hm];rfl))) (by simp))) rfl rfl rfl rfl fun a hF=>?_
  refine E.nil ?_
  refine wp_cond_true (hF.at 0 rfl) ?_
  refine wp_seq ?_
  refine E.seq ?_
  refine S.call st hF (r_call Tryz.func70 en70.1 en70.2 (map1 ev_c)) (of_any 1 _ (by decide)) (fun _ _ h=>h) Dg.cl rfl rfl rfl rfl fun vv3 w2 a st hF=>?_
  obtain⟨ad5,n5,c5,rfl⟩:=Dg.form (st.f 0 rfl)
  refine E.opset (L':=[(2,.slice ad5 n5 c5),(7,.slice ad5 n5 c5),(6,.bool true),(5,.int .i64 ((m1:Nat):Int)),(4,.slice ae1 m1 d1),(3,.pointer (some ⟨g1,2,none⟩)),(1,.pointer (some ⟨g1,0,none⟩)),(0,.agg #[.bool b1,.slice ad1 n1 c1,.slice ae1 m1 d1])]) hF (r_assign (hF.at 0 rfl)) rfl rfl rfl rfl fun a hF=>?_
  refine E.nil ?_
  refine wp_ret ?_
  have bel:=st.bel
  refine bodyPost_ret (res_tmp Tryz.results94 (hF.at 0 rfl)) hF.dfr ?_
  have hh4:=(st.f 0 rfl)
  exact⟨_,rfl,hh4,bel⟩
 ·rw[dn_of h0] at hd1
  have hm:=hd1.lenp B32_two (Rat.den_pos q1)
  clear h1
  have st:=St.start w
  refine E.enter (nt:=10) (L:=[(0,.agg #[.bool b1,.slice ad1 n1 c1,.slice ae1 m1 d1])]) Tryz.func94 rfl rfl rfl (args_cons (i:=0) rfl args_nil) ?_
  intro a hF
  refine wp_seq ?_
  refine E.seq ?_
  refine S.box st hF (hF.at 0 rfl) rfl rfl fun g1 w1 a st hF=>?_
  refine E.opv hF (r_assign ev_c) rfl rfl rfl rfl fun a hF=>?_
  refine E.nil ?_
  refine wp_seq ?_
  refine wp_seq ?_
  refine E.seq ?_
  refine E.opv hF (r_field (hF.at 1 rfl) (fa_Rat_1 (p:=2) rfl)) rfl rfl rfl rfl fun a hF=>?_
  refine E.opv hF (r_load (hF.at 0 rfl) (ld_Nat (v:= .slice ae1 m1 d1) (st.b 0 rfl rfl) rfl)) rfl rfl rfl rfl fun a hF=>?_
  refine E.opv hF (r_builtin (map1 (hF.at 0 rfl)) bl_nat) rfl rfl rfl rfl fun a hF=>?_
  refine E.opv hF (r_bin (hF.at 0 rfl) ev_c eg_scalar (bi_int (ic_eql (c:=false) (eq0f (by omega))) (by simp))) rfl rfl rfl rfl fun a hF=>?_
  refine E.nil ?_
  refine wp_cond_false (hF.at 0 rfl) ?_
  refine wp_skip ?_
  refine E.norm ?_
  refine wp_seq ?_
  refine E.seq ?_
  refine E.opv hF (r_field (hF.at 5 rfl) (fa_Rat_1 (p:=2) rfl)) rfl rfl rfl rfl fun a hF=>?_
  refine E.opv hF (r_load (hF.at 0 rfl) (ld_Nat (v:= .slice ae1 m1 d1) (st.b 0 rfl rfl) rfl)) rfl rfl rfl rfl fun a hF=>?_
  refine E.opset (L':=[(2,.slice ae1 m1 d1),(9,.slice ae1 m1 d1),(8,.pointer (some ⟨g1,2,none⟩)),(6,.bool false),(5,.int .i64 ((m1:Nat):Int)),(4,.slice ae1 m1 d1),(3,.pointer (some ⟨g1,2,none⟩)),(1,.pointer (some ⟨g1,0,none⟩)),(0,.agg #[.bool b1,.slice ad1 n1 c1,.slice ae1 m1 d1])]) hF (r_assign (hF.at 0 rfl)) rfl rfl rfl rfl fun a hF=>?_
  refine E.nil ?_
  refine wp_ret ?_
  have bel:=st.bel
  refine bodyPost_ret (res_tmp Tryz.results94 (hF.at 0 rfl)) hF.dfr ?_
  have hd1:=(hd1.below st.bel)
  exact⟨_,rfl,hd1,bel⟩
theorem Rz0 {q:Rat} (h:q=0) (w:World):Rq w (.agg #[.bool false,.slice none 0 0,.slice none 0 0]) q:=by subst h;exact Rq.zero w
theorem ratio_any (b:Bool) (s v2:Value) (N D:Nat) (q:Rat) (w:World) (h1:Dg w .u32 B32 s N) (h2:Dg w .u32 B32 v2 D) (hz:sg b N=q.num) (hd:N≠0→D=q.den):
 Calls Tryz.prog 106 #[.agg #[.bool b,s],v2] w (RqPost w q):=by
 obtain⟨ad1,n1,c1,rfl⟩:=h1.form
 obtain⟨ae1,m1,d1,rfl⟩:=h2.form
 have hg:Wg w (.agg #[.bool b,.slice ad1 n1 c1]) b N:=Wg.mk h1
 by_cases h0:N=0
 ·have hq:q=0:=Rat.num_eq_zero.1 (by rw[←hz,h0,sg_zero])
  have st:=St.start w
  refine E.enter (nt:=12) (L:=[(0,.agg #[.bool b,.slice ad1 n1 c1]),(1,.slice ae1 m1 d1)]) Tryz.func106 rfl rfl rfl (args_cons (i:=0) rfl (args_cons (i:=1) rfl args_nil)) ?_
  intro a hF
  refine wp_seq ?_
  refine E.seq ?_
  refine S.box st hF (hF.at 0 rfl) rfl rfl fun g2 w1 a st hF=>?_
  refine S.alloc st hF ty_Rat rfl rfl fun g4 w2 a st hF=>?_
  refine E.nil ?_
  refine wp_seq ?_
  refine wp_seq ?_
  refine E.seq ?_
  refine E.opv hF (r_load (hF.at 1 rfl) (ld_all ty_Int (st.bk 1 rfl) rfl)) rfl rfl rfl rfl fun a hF=>?_
  refine S.callx st hF (r_call Tryz.func151 en151.1 en151.2 (map1 (hF.at 0 rfl))) (whSign_any _ _ _ (Wg.wz (hg.below st.bel))) rfl rfl rfl rfl fun w3 a st hF=>?_
  refine E.opv hF (r_bin (hF.at 0 rfl) ev_c eg_scalar (bi_int (ic_eql (c:=true) (eq0 (sz_sg0 h0))) (by simp))) rfl rfl rfl rfl fun a hF=>?_
  refine E.nil ?_
  refine wp_cond_true (hF.at 0 rfl) ?_
  refine wp_seq ?_
  refine E.seq ?_
  refine E.opv hF (r_build (by simp) (bd_Rat_ _)) rfl rfl rfl rfl fun a hF=>?_
  refine S.sto st hF 0 rfl (hF.at 4 rfl) (hF.at 0 rfl) ty_Rat rfl rfl rfl rfl fun w4 a st hF=>?_
  refine E.nil ?_
  refine wp_ret ?_
  refine S.ret Tryz.results106 st hF (hF.at 4 rfl) 0 rfl ty_Rat rfl hF.dfr ?_
  have bel:=st.bel
  exact⟨_,rfl,Rz0 hq _,bel⟩
 ·have st:=St.start w
  refine E.enter (nt:=12) (L:=[(0,.agg #[.bool b,.slice ad1 n1 c1]),(1,.slice ae1 m1 d1)]) Tryz.func106 rfl rfl rfl (args_cons (i:=0) rfl (args_cons (i:=1) rfl args_nil)) ?_
  intro a hF
  refine wp_seq ?_
  refine E.seq ?_
  refine S.box st hF (hF.at 0 rfl) rfl rfl fun g2 w1 a st hF=>?_
  refine S.alloc st hF ty_Rat rfl rfl fun g4 w2 a st hF=>?_
  refine E.nil ?_
  refine wp_seq ?_
  refine wp_seq ?_
  refine E.seq ?_
  refine E.opv hF (r_load (hF.at 1 rfl) (ld_all ty_Int (st.bk 1 rfl) rfl)) rfl rfl rfl rfl fun a hF=>?_
  refine S.callx st hF (r_call Tryz.func151 en151.1 en151.2 (map1 (hF.at 0 rfl))) (whSign_any _ _ _ (Wg.wz (hg.below st.bel))) rfl rfl rfl rfl fun w3 a st hF=>?_
  refine E.opv hF (r_bin (hF.at 0 rfl) ev_c eg_scalar (bi_int (ic_eql (c:=false) (eq0f (sz_sgp h0))) (by simp))) rfl rfl rfl rfl fun a hF=>?_
  refine E.nil ?_
  refine wp_cond_false (hF.at 0 rfl) ?_
  refine wp_skip ?_
  refine E.norm ?_
  refine wp_seq ?_
  refine E.seq ?_
  refine E.opv hF (r_load (hF.at 4 rfl) (ld_all ty_Int (st.bk 1 rfl) rfl)) rfl rfl rfl rfl fun a hF=>?_
  refine E.opv hF (r_move (hF.at 7 rfl)) rfl rfl rfl rfl fun a hF=>?_
  refine E.opv hF (r_build (pair2 (hF.at 1 rfl) (hF.at 0 rfl)) (bd_Rat_01 _ _ _ _ _ _ _ _)) rfl rfl rfl rfl fun a hF=>?_
  refine S.sto st hF 0 rfl (hF.at 6 rfl) (hF.at 0 rfl) ty_Rat rfl rfl rfl rfl fun w4 a st hF=>?_
  refine E.nil ?_
  refine wp_ret ?_
  refine S.ret Tryz.results106 st hF (hF.at 6 rfl) 0 rfl ty_Rat rfl hF.dfr ?_
  have bel:=st.bel
  have h1:=(h1.below st.bel)
  have h2:=(h2.below st.bel)
  exact⟨_,rfl,Rq.mk h1 h2 h0 hz (hd h0),bel⟩
theorem ratio_wg (v1 v2:Value) (b:Bool) (N D:Nat) (q:Rat) (w:World) (h1:Wg w v1 b N) (h2:Dg w .u32 B32 v2 D) (hz:sg b N=q.num) (hd:N≠0→D=q.den):Calls Tryz.prog 106 #[v1,v2] w (RqPost w q):=by
 obtain⟨s,rfl,h⟩:=h1
 exact ratio_any b s v2 N D q w h h2 hz hd
theorem ratio_wc (v1 v2:Value) (z:Int) (D:Nat) (q:Rat) (w:World) (h1:Wc w v1 z) (h2:Dg w .u32 B32 v2 D) (hz:z=q.num) (hd:z≠0→D=q.den):Calls Tryz.prog 106 #[v1,v2] w (RqPost w q):=by
 obtain⟨s,rfl,h⟩:=h1
 exact ratio_any _ s v2 z.natAbs D q w h h2 ((sg_dec z).trans hz) (fun hn=>hd (by omega))
theorem rsgn_any (v1:Value) (q1:Rat) (w:World) (h1:Rq w v1 q1):
 Calls Tryz.prog 141 #[v1] w (IntPost w (sz q1.num)):=by
 obtain⟨b1,ad1,n1,c1,ae1,m1,d1,rfl,hn1,hd1⟩:=h1.shape
 have h1:Rq w (.agg #[.bool b1,.slice ad1 n1 c1,.slice ae1 m1 d1]) q1:=⟨_,_,_,_,_,_,_,rfl,hn1,hd1⟩
 have ha1:=hn1.abs
 have hb1:=hn1.neg
 have st:=St.start w
 refine E.enter (nt:=6) (L:=[(0,.agg #[.bool b1,.slice ad1 n1 c1,.slice ae1 m1 d1])]) Tryz.func141 rfl rfl rfl (args_cons (i:=0) rfl args_nil) ?_
 intro a hF
 refine wp_seq ?_
 refine E.seq ?_
 refine S.box st hF (hF.at 0 rfl) rfl rfl fun g1 w1 a st hF=>?_
 refine E.opv hF (r_assign ev_c) rfl rfl rfl rfl fun a hF=>?_
 refine E.nil ?_
 refine wp_seq ?_
 refine E.seq ?_
 refine E.opv hF (r_field (hF.at 1 rfl) (fa_Rat_0 (p:=0) rfl)) rfl rfl rfl rfl fun a hF=>?_
 refine E.opv hF (r_load (hF.at 0 rfl) (ld_Int (vs:=[.bool b1,.slice ad1 n1 c1]) (st.b 0 rfl rfl) rfl rfl)) rfl rfl rfl rfl fun a hF=>?_
 refine S.callx st hF (r_call Tryz.func151 en151.1 en151.2 (map1 (hF.at 0 rfl))) (whSign_any _ _ _ (Wc.wz (hn1.below st.bel))) rfl rfl rfl rfl fun w2 a st hF=>?_
 refine E.opset (L':=[(2,.int .i64 (sz (Rat.num (q1)))),(5,.int .i64 (sz (Rat.num (q1)))),(4,.agg #[.bool b1,.slice ad1 n1 c1]),(3,.pointer (some ⟨g1,0,none⟩)),(1,.pointer (some ⟨g1,0,none⟩)),(0,.agg #[.bool b1,.slice ad1 n1 c1,.slice ae1 m1 d1])]) hF (r_assign (hF.at 0 rfl)) rfl rfl rfl rfl fun a hF=>?_
 refine E.nil ?_
 refine wp_ret ?_
 have bel:=st.bel
 refine bodyPost_ret (res_tmp Tryz.results141 (hF.at 0 rfl)) hF.dfr ?_
 exact⟨rfl,bel⟩
theorem rnum_any (v1:Value) (q1:Rat) (w:World) (h1:Rq w v1 q1):
 Calls Tryz.prog 65 #[v1] w (WcPost w (q1.num)):=by
 obtain⟨b1,ad1,n1,c1,ae1,m1,d1,rfl,hn1,hd1⟩:=h1.shape
 have h1:Rq w (.agg #[.bool b1,.slice ad1 n1 c1,.slice ae1 m1 d1]) q1:=⟨_,_,_,_,_,_,_,rfl,hn1,hd1⟩
 have ha1:=hn1.abs
 have hb1:=hn1.neg
 have ES:=Lib.hid (show sg b1 (Int.natAbs (Rat.num q1))=q1.num by rw[hb1,sg_dec])
 have st:=St.start w
 refine E.enter (nt:=10) (L:=[(0,.agg #[.bool b1,.slice ad1 n1 c1,.slice ae1 m1 d1])]) Tryz.func65 rfl rfl rfl (args_cons (i:=0) rfl args_nil) ?_
 intro a hF
 refine wp_seq ?_
 refine E.seq ?_
 refine S.box st hF (hF.at 0 rfl) rfl rfl fun g1 w1 a st hF=>?_
 refine S.alloc st hF ty_Int rfl rfl fun g2 w2 a st hF=>?_
 refine E.nil ?_
 refine wp_seq ?_
 refine E.seq ?_
 refine E.opv hF (r_field (hF.at 1 rfl) (fa_Rat_0 (p:=0) rfl)) rfl rfl rfl rfl fun a hF=>?_
 refine E.opv hF (r_field (hF.at 0 rfl) (fa_Int_0 (p:=0) rfl)) rfl rfl rfl rfl fun a hF=>?_
 refine E.opv hF (r_load (hF.at 0 rfl) (ld_bool (v:= .bool b1) (st.b 1 rfl rfl) rfl)) rfl rfl rfl rfl fun a hF=>?_
 refine E.opv hF (r_field (hF.at 4 rfl) (fa_Rat_0 (p:=0) rfl)) rfl rfl rfl rfl fun a hF=>?_
 refine E.opv hF (r_field (hF.at 0 rfl) (fa_Int_1 (p:=1) rfl)) rfl rfl rfl rfl fun a hF=>?_
 refine E.opv hF (r_load (hF.at 0 rfl) (ld_Nat (v:= .slice ad1 n1 c1) (st.b 1 rfl rfl) rfl)) rfl rfl rfl rfl fun a hF=>?_
 refine S.call st hF (r_call Tryz.func130 en130.1 en130.2 (map2 (hF.at 3 rfl) (hF.at 0 rfl))) (make_any _ _ (Int.natAbs (Rat.num (q1))) _ (Dg.nt (ha1.below st.bel))) (fun _ _ h=>h) Wc.cl rfl rfl rfl rfl fun vv4 w3 a st hF=>?_
 obtain⟨ad6,n6,c6,rfl,_⟩:=Wc.shape (st.f 0 rfl)
 refine S.sto st hF 0 rfl (hF.at 7 rfl) (hF.at 0 rfl) ty_Int rfl rfl rfl rfl fun w7 a st hF=>?_
 have hf8:=Wc.abs (st.f 0 rfl)
 replace st:=st.add hf8 (Dg.cl _)
 clear hf8
 refine E.nil ?_
 refine wp_ret ?_
 refine S.ret Tryz.results65 st hF (hF.at 7 rfl) 0 rfl ty_Int rfl hF.dfr ?_
 have bel:=st.bel
 have hh5:=(st.f 1 rfl)
 exact⟨_,rfl,Wc.cast hh5 ES.out,bel⟩
theorem rden_any (v1:Value) (q1:Rat) (w:World) (h1:Rq w v1 q1):
 Calls Tryz.prog 66 #[v1] w (DgPost w (q1.den)):=by
 obtain⟨b1,ad1,n1,c1,ae1,m1,d1,rfl⟩:=h1.form
 have st:=St.start w
 refine E.enter (nt:=6) (L:=[(0,.agg #[.bool b1,.slice ad1 n1 c1,.slice ae1 m1 d1])]) Tryz.func66 rfl rfl rfl (args_cons (i:=0) rfl args_nil) ?_
 intro a hF
 refine wp_seq ?_
 refine E.seq ?_
 refine S.box st hF (hF.at 0 rfl) rfl rfl fun g1 w1 a st hF=>?_
 refine E.opv hF (r_assign ev_c) rfl rfl rfl rfl fun a hF=>?_
 refine E.nil ?_
 refine wp_seq ?_
 refine E.seq ?_
 refine E.opv hF (r_load (hF.at 1 rfl) (ld_all ty_Rat (st.bk 0 rfl) rfl)) rfl rfl rfl rfl fun a hF=>?_
 refine S.call st hF (r_call Tryz.func94 en94.1 en94.2 (map1 (hF.at 0 rfl))) (rbelow_any _ (q1) _ (h1.below st.bel)) (fun _ _ h=>h) Dg.cl rfl rfl rfl rfl fun vv3 w2 a st hF=>?_
 obtain⟨ad5,n5,c5,rfl⟩:=Dg.form (st.f 0 rfl)
 refine S.call st hF (r_call Tryz.func131 en131.1 en131.2 (map1 (hF.at 0 rfl))) (trim_nt _ (Rat.den (q1)) _ (Dg.nt (st.f 0 rfl))) (fun _ _ h=>h) Dg.cl rfl rfl rfl rfl fun vv7 w6 a st hF=>?_
 obtain⟨ad9,n9,c9,rfl⟩:=Dg.form (st.f 0 rfl)
 refine E.opset (L':=[(2,.slice ad9 n9 c9),(5,.slice ad9 n9 c9),(4,.slice ad5 n5 c5),(3,.agg #[.bool b1,.slice ad1 n1 c1,.slice ae1 m1 d1]),(1,.pointer (some ⟨g1,0,none⟩)),(0,.agg #[.bool b1,.slice ad1 n1 c1,.slice ae1 m1 d1])]) hF (r_assign (hF.at 0 rfl)) rfl rfl rfl rfl fun a hF=>?_
 refine E.nil ?_
 refine wp_ret ?_
 have bel:=st.bel
 refine bodyPost_ret (res_tmp Tryz.results66 (hF.at 0 rfl)) hF.dfr ?_
 have hh8:=(st.f 0 rfl)
 exact⟨_,rfl,hh8,bel⟩
theorem rmk_any (v1 v2:Value) (z1 z2:Int) (w:World) (h1:Wz w v1 z1) (h2:Wz w v2 z2):
 Calls Tryz.prog 100 #[v1,v2] w (RqPost w ((z1:Rat)/(z2:Rat))):=by
 obtain⟨neg1,ad1,n1,c1,N1,rfl,hN1,rfl⟩:=h1.shape
 have h1:Wz w (.agg #[.bool neg1,.slice ad1 n1 c1]) (sg neg1 N1):=⟨_,_,_,rfl,hN1,rfl⟩
 obtain⟨neg2,ad2,n2,c2,N2,rfl,hN2,rfl⟩:=h2.shape
 have h2:Wz w (.agg #[.bool neg2,.slice ad2 n2 c2]) (sg neg2 N2):=⟨_,_,_,rfl,hN2,rfl⟩
 by_cases h0:N2=0
 ·have hq:(sg neg1 N1:Rat)/(sg neg2 N2:Rat)=0:=by rw[h0,sg_zero,Rat.intCast_zero,Rat.div_def,Rat.inv_zero,Rat.mul_zero]
  have st:=St.start w
  refine E.enter (nt:=30) (L:=[(0,.agg #[.bool neg1,.slice ad1 n1 c1]),(1,.agg #[.bool neg2,.slice ad2 n2 c2])]) Tryz.func100 rfl rfl rfl (args_cons (i:=0) rfl (args_cons (i:=1) rfl args_nil)) ?_
  intro a hF
  refine wp_seq ?_
  refine E.seq ?_
  refine S.box st hF (hF.at 0 rfl) rfl rfl fun g2 w1 a st hF=>?_
  refine S.box st hF (hF.at 2 rfl) rfl rfl fun g3 w2 a st hF=>?_
  refine S.alloc st hF ty_Rat rfl rfl fun g4 w3 a st hF=>?_
  refine E.nil ?_
  refine wp_seq ?_
  refine wp_seq ?_
  refine E.seq ?_
  refine E.opv hF (r_load (hF.at 1 rfl) (ld_all ty_Int (st.bk 1 rfl) rfl)) rfl rfl rfl rfl fun a hF=>?_
  refine S.callx st hF (r_call Tryz.func151 en151.1 en151.2 (map1 (hF.at 0 rfl))) (whSign_any _ _ _ (h2.below st.bel)) rfl rfl rfl rfl fun w4 a st hF=>?_
  refine E.opv hF (r_bin (hF.at 0 rfl) ev_c eg_scalar (bi_int (ic_eql (c:=true) (eq0 (sz_sg0 h0))) (by simp))) rfl rfl rfl rfl fun a hF=>?_
  refine E.nil ?_
  refine wp_cond_true (hF.at 0 rfl) ?_
  refine wp_seq ?_
  refine E.seq ?_
  refine E.opv hF (r_build (by simp) (bd_Rat_ _)) rfl rfl rfl rfl fun a hF=>?_
  refine S.sto st hF 0 rfl (hF.at 4 rfl) (hF.at 0 rfl) ty_Rat rfl rfl rfl rfl fun w5 a st hF=>?_
  refine E.nil ?_
  refine wp_ret ?_
  refine S.ret Tryz.results100 st hF (hF.at 4 rfl) 0 rfl ty_Rat rfl hF.dfr ?_
  have bel:=st.bel
  exact⟨_,rfl,Rz0 hq _,bel⟩
 ·have HP:=Lib.hid (div_parts neg1 neg2 N1 N2 h0)
  have st:=St.start w
  refine E.enter (nt:=30) (L:=[(0,.agg #[.bool neg1,.slice ad1 n1 c1]),(1,.agg #[.bool neg2,.slice ad2 n2 c2])]) Tryz.func100 rfl rfl rfl (args_cons (i:=0) rfl (args_cons (i:=1) rfl args_nil)) ?_
  intro a hF
  refine wp_seq ?_
  refine E.seq ?_
  refine S.box st hF (hF.at 0 rfl) rfl rfl fun g2 w1 a st hF=>?_
  refine S.box st hF (hF.at 2 rfl) rfl rfl fun g3 w2 a st hF=>?_
  refine S.alloc st hF ty_Rat rfl rfl fun g4 w3 a st hF=>?_
  refine E.nil ?_
  refine wp_seq ?_
  refine wp_seq ?_
  refine E.seq ?_
  refine E.opv hF (r_load (hF.at 1 rfl) (ld_all ty_Int (st.bk 1 rfl) rfl)) rfl rfl rfl rfl fun a hF=>?_
  refine S.callx st hF (r_call Tryz.func151 en151.1 en151.2 (map1 (hF.at 0 rfl))) (whSign_any _ _ _ (h2.below st.bel)) rfl rfl rfl rfl fun w4 a st hF=>?_
  refine E.opv hF (r_bin (hF.at 0 rfl) ev_c eg_scalar (bi_int (ic_eql (c:=false) (eq0f (sz_sgp h0))) (by simp))) rfl rfl rfl rfl fun a hF=>?_
  refine E.nil ?_
  refine wp_cond_false (hF.at 0 rfl) ?_
  refine wp_skip ?_
  refine E.norm ?_
  refine wp_seq ?_
  refine E.seq ?_
  refine E.opv hF (r_field (hF.at 5 rfl) (fa_Int_1 (p:=1) rfl)) rfl rfl rfl rfl fun a hF=>?_
  refine E.opv hF (r_load (hF.at 0 rfl) (ld_Nat (v:= .slice ad1 n1 c1) (st.b 2 rfl rfl) rfl)) rfl rfl rfl rfl fun a hF=>?_
  refine E.opv hF (r_field (hF.at 6 rfl) (fa_Int_1 (p:=1) rfl)) rfl rfl rfl rfl fun a hF=>?_
  refine E.opv hF (r_load (hF.at 0 rfl) (ld_Nat (v:= .slice ad2 n2 c2) (st.b 1 rfl rfl) rfl)) rfl rfl rfl rfl fun a hF=>?_
  refine S.call st hF (r_call Tryz.func68 en68.1 en68.2 (map2 (hF.at 2 rfl) (hF.at 0 rfl))) (gcd_any _ _ N1 N2 _ (hN1.below st.bel) (hN2.below st.bel)) (fun _ _ h=>h) Dg.cl rfl rfl rfl rfl fun vv6 w5 a st hF=>?_
  obtain⟨ad8,n8,c8,rfl⟩:=Dg.form (st.f 0 rfl)
  refine E.opv hF (r_assign (hF.at 0 rfl)) rfl rfl rfl rfl fun a hF=>?_
  refine E.nil ?_
  refine wp_seq ?_
  refine E.drawn 15 mixed hF [15,16,17,18,19,20,21,22,23,24,25,26,27,28,29] [(fun _ v=>v= .pointer (some ⟨g2,0,none⟩)),(fun _ v=>v= .bool neg1),(fun _ v=>v= .pointer (some ⟨g3,0,none⟩)),(fun _ v=>v= .bool neg2),(fun _ v=>v= .bool (neg1 !=neg2)),(fun _ v=>v= .pointer (some ⟨g2,1,none⟩)),(fun _ v=>v= .slice ad1 n1 c1),(fun _ v=>v= .slice ad8 n8 c8),(fun w v=>Dg w .u32 B32 v ((N1)/(Nat.gcd (N1) (N2)))),(fun w v=>Wg w v (neg1 !=neg2) ((N1)/(Nat.gcd (N1) (N2)))),(fun _ v=>v= .pointer (some ⟨g3,1,none⟩)),(fun _ v=>v= .slice ad2 n2 c2),(fun _ v=>v= .slice ad8 n8 c8),(fun w v=>Dg w .u32 B32 v ((N2)/(Nat.gcd (N1) (N2)))),(fun w v=>Rq w v ((sg neg1 N1:Rat)/(sg neg2 N2:Rat)))] [] (by decide+kernel) (by decide+kernel) rfl rfl rfl ⟨(Mb.eq _),(Mb.eq _),(Mb.eq _),(Mb.eq _),(Mb.eq _),(Mb.eq _),(Mb.eq _),(Mb.eq _),(fun _ _ _ h hb=>h.below hb),(fun _ _ _ h hb=>h.below hb),(Mb.eq _),(Mb.eq _),(Mb.eq _),(fun _ _ _ h hb=>h.below hb),(fun _ _ _ h hb=>h.below hb),trivial⟩ trivial ⟨?_,?_,?_,?_,?_,?_,?_,?_,?_,?_,?_,?_,?_,?_,?_,trivial⟩ ?_
  ·intro a' w' hF' hb hd
   exact dv0 (r_field (hF'.at 11 rfl) (fa_Int_0 (p:=0) rfl)) rfl rfl rfl
  ·intro a' w' hF' hb hd
   have e15:=sHe hd 0 15 rfl rfl rfl rfl
   exact dv0 (r_load e15 (ld_bool (v:= .bool neg1) ((st.b 2 rfl rfl).below hb) rfl)) rfl rfl rfl
  ·intro a' w' hF' hb hd
   exact dv0 (r_field (hF'.at 10 rfl) (fa_Int_0 (p:=0) rfl)) rfl rfl rfl
  ·intro a' w' hF' hb hd
   have e17:=sHe hd 0 17 rfl rfl rfl rfl
   exact dv0 (r_load e17 (ld_bool (v:= .bool neg2) ((st.b 1 rfl rfl).below hb) rfl)) rfl rfl rfl
  ·intro a' w' hF' hb hd
   have e16:=sHe hd 0 16 rfl rfl rfl rfl
   have e18:=sHe hd 1 18 rfl rfl rfl rfl
   exact dv0 (r_bin e16 e18 eg_bool (bb_neq (d:=(neg1 !=neg2)) rfl)) rfl rfl rfl
  ·intro a' w' hF' hb hd
   exact dv0 (r_field (hF'.at 11 rfl) (fa_Int_1 (p:=1) rfl)) rfl rfl rfl
  ·intro a' w' hF' hb hd
   have e20:=sHe hd 0 20 rfl rfl rfl rfl
   exact dv0 (r_load e20 (ld_Nat (v:= .slice ad1 n1 c1) ((st.b 2 rfl rfl).below hb) rfl)) rfl rfl rfl
  ·intro a' w' hF' hb hd
   exact dv0 (r_move (hF'.at 0 rfl)) rfl rfl rfl
  ·intro a' w' hF' hb hd
   have e21:=sHe hd 0 21 rfl rfl rfl rfl
   have e22:=sHe hd 1 22 rfl rfl rfl rfl
   exact dc0 (r_call Tryz.func118 en118.1 en118.2 (map2 e21 e22)) (rby_any _ _ N1 (Nat.gcd (N1) (N2)) _ (hN1.below (below_to st.bel hb)) (Dg.nt ((st.f 0 rfl).below hb))) rfl rfl
  ·intro a' w' hF' hb hd
   have e19:=sHe hd 0 19 rfl rfl rfl rfl
   obtain⟨v23_0,e23,h23_1⟩:=sH hd 1 23 rfl rfl rfl rfl
   obtain⟨ad9,n9,c9,rfl⟩:=Dg.form h23_1
   exact dv0 (r_build (pair2 e19 e23) (bd_Int_01 _ _ _ _ _)) (Wg.mk h23_1) rfl rfl
  ·intro a' w' hF' hb hd
   exact dv0 (r_field (hF'.at 10 rfl) (fa_Int_1 (p:=1) rfl)) rfl rfl rfl
  ·intro a' w' hF' hb hd
   have e25:=sHe hd 0 25 rfl rfl rfl rfl
   exact dv0 (r_load e25 (ld_Nat (v:= .slice ad2 n2 c2) ((st.b 1 rfl rfl).below hb) rfl)) rfl rfl rfl
  ·intro a' w' hF' hb hd
   exact dv0 (r_move (hF'.at 0 rfl)) rfl rfl rfl
  ·intro a' w' hF' hb hd
   have e26:=sHe hd 0 26 rfl rfl rfl rfl
   have e27:=sHe hd 1 27 rfl rfl rfl rfl
   exact dc0 (r_call Tryz.func118 en118.1 en118.2 (map2 e26 e27)) (rby_any _ _ N2 (Nat.gcd (N1) (N2)) _ (hN2.below (below_to st.bel hb)) (Dg.nt ((st.f 0 rfl).below hb))) rfl rfl
  ·intro a' w' hF' hb hd
   obtain⟨v24,e24,h24⟩:=sH hd 0 24 rfl rfl rfl rfl
   obtain⟨v28_0,e28,h28_1⟩:=sH hd 1 28 rfl rfl rfl rfl
   exact dc0 (r_call Tryz.func106 en106.1 en106.2 (map2 e24 e28)) (ratio_wg _ _ ((neg1 !=neg2)) ((N1)/(Nat.gcd (N1) (N2))) ((N2)/(Nat.gcd (N1) (N2))) ((sg neg1 N1:Rat)/(sg neg2 N2:Rat)) _ h24 h28_1 HP.out.1 HP.out.2) rfl rfl
  intro a w10 hF bb hall hne
  replace st:=st.to bb
  obtain⟨vv11,e29,hh12⟩:=sS hall 14 29 rfl rfl
  replace st:=st.add hh12 (Rq.cl _)
  clear hh12
  clear hall hne bb
  obtain⟨b13,ad13,n13,c13,ae13,m13,d13,rfl⟩:=Rq.form (st.f 0 rfl)
  replace hF:=hF.add e29
  clear e29
  refine S.sto st hF 0 rfl (hF.at 10 rfl) (hF.at 0 rfl) ty_Rat rfl rfl rfl rfl fun w14 a st hF=>?_
  refine E.nil ?_
  refine wp_ret ?_
  refine S.ret Tryz.results100 st hF (hF.at 10 rfl) 0 rfl ty_Rat rfl hF.dfr ?_
  have bel:=st.bel
  have hh12:=(st.f 0 rfl)
  exact⟨_,rfl,hh12,bel⟩
end
section
def qc (a b:Rat):Int:=ci (a.num*(b.den:Int)) (b.num*(a.den:Int))
theorem limz_64 {n:Int} (h0: -9223372036854775808≤n) (h1:n≤9223372036854775807):Lim n.natAbs 2:=Lim.of64 (by omega)
theorem rlim_mk2 {z y:Int} {a b:Nat} (h1:Lim z.natAbs a) (h2:Lim y.natAbs b):RLim ((z:Rat)/(y:Rat)) (max 1 (max a b)):=by
 rw[Rat.div_def]
 by_cases h0:y=0
 ·subst h0;rw[Rat.intCast_zero,Rat.inv_zero,Rat.mul_zero];exact rlim_zero (by omega)
 ·have e:(z:Rat)*(y:Rat)⁻¹ =mkRat (z*y.sign) y.natAbs:=by
   rw[←Rat.div_def,←Rat.divInt_eq_div]
   rcases Int.lt_or_gt_of_ne h0 with h|h
   ·obtain⟨m,rfl⟩:∃m:Nat,y= -(m:Int):=⟨y.natAbs,by omega⟩
    rw[Rat.divInt_neg',Rat.divInt_ofNat,Int.sign_eq_neg_one_of_neg h,Int.natAbs_neg,Int.natAbs_natCast,Int.mul_neg,Int.mul_one]
   ·obtain⟨m,rfl⟩:∃m:Nat,y=(m:Int):=⟨y.natAbs,by omega⟩
    rw[Rat.divInt_ofNat,Int.sign_eq_one_of_pos h,Int.natAbs_natCast,Int.mul_one]
  rw[e]
  refine rlim_mk ((h1.le ?_).up _ (by omega)) (h2.up _ (by omega)) (by omega)
  rw[Int.natAbs_mul]
  have:y.sign.natAbs≤1:=by rcases Int.lt_or_gt_of_ne h0 with h|h
                           ·rw[Int.sign_eq_neg_one_of_neg h];decide
                           ·rw[Int.sign_eq_one_of_pos h];decide
  exact Nat.le_trans (Nat.mul_le_mul_left _ this) (by omega)
theorem abs_parts (q:Rat):sg false q.num.natAbs=q.abs.num∧q.den=q.abs.den:=by
 unfold Rat.abs
 split
 ·rename_i h
  have:=Rat.num_nonneg.2 h
  exact⟨by rw[sg_false];omega,rfl⟩
 ·rename_i h
  have:¬0≤q.num:=fun h'=>h (Rat.num_nonneg.1 h')
  exact⟨by rw[sg_false,Rat.neg_num];omega,rfl⟩
theorem rOpp_any (v1:Value) (q1:Rat) (w:World) (h1:Rq w v1 q1):
 Calls Tryz.prog 121 #[v1] w (RqPost w (-q1)):=by
 obtain⟨b1,ad1,n1,c1,ae1,m1,d1,rfl,hn1,hd1⟩:=h1.shape
 have h1:Rq w (.agg #[.bool b1,.slice ad1 n1 c1,.slice ae1 m1 d1]) q1:=⟨_,_,_,_,_,_,_,rfl,hn1,hd1⟩
 have ha1:=hn1.abs
 have hb1:=hn1.neg
 have st:=St.start w
 refine E.enter (nt:=9) (L:=[(0,.agg #[.bool b1,.slice ad1 n1 c1,.slice ae1 m1 d1])]) Tryz.func121 rfl rfl rfl (args_cons (i:=0) rfl args_nil) ?_
 intro a hF
 refine wp_seq ?_
 refine E.seq ?_
 refine S.box st hF (hF.at 0 rfl) rfl rfl fun g1 w1 a st hF=>?_
 refine S.alloc st hF ty_Rat rfl rfl fun g2 w2 a st hF=>?_
 refine E.nil ?_
 refine wp_seq ?_
 refine E.drawn 6 mixed hF [3,4,5,6,7,8] [(fun _ v=>v= .pointer (some ⟨g1,0,none⟩)),(fun _ v=>v= .agg #[.bool b1,.slice ad1 n1 c1]),(fun w v=>Wc w v (-(Rat.num (q1)))),(fun _ v=>v= .agg #[.bool b1,.slice ad1 n1 c1,.slice ae1 m1 d1]),(fun w v=>Dg w .u32 B32 v (Rat.den (q1))),(fun w v=>Rq w v (-q1))] [] (by decide+kernel) (by decide+kernel) rfl rfl rfl ⟨(Mb.eq _),(Mb.eq _),(fun _ _ _ h hb=>h.below hb),(Mb.eq _),(fun _ _ _ h hb=>h.below hb),(fun _ _ _ h hb=>h.below hb),trivial⟩ trivial ⟨?_,?_,?_,?_,?_,?_,trivial⟩ ?_
 ·intro a' w' hF' hb hd
  exact dv0 (r_field (hF'.at 1 rfl) (fa_Rat_0 (p:=0) rfl)) rfl rfl rfl
 ·intro a' w' hF' hb hd
  have e3:=sHe hd 0 3 rfl rfl rfl rfl
  exact dv0 (r_load e3 (ld_Int (vs:=[.bool b1,.slice ad1 n1 c1]) ((st.b 1 rfl rfl).below hb) rfl rfl)) rfl rfl rfl
 ·intro a' w' hF' hb hd
  have e4:=sHe hd 0 4 rfl rfl rfl rfl
  exact dc0 (r_call Tryz.func168 en168.1 en168.2 (map1 e4)) (whOpp_any _ _ _ (Wc.wz (hn1.below (below_to st.bel hb)))) rfl rfl
 ·intro a' w' hF' hb hd
  exact dv0 (r_load (hF'.at 1 rfl) (ld_all ty_Rat ((st.bk 1 rfl).below hb) rfl)) rfl rfl rfl
 ·intro a' w' hF' hb hd
  have e6:=sHe hd 0 6 rfl rfl rfl rfl
  exact dc0 (r_call Tryz.func66 en66.1 en66.2 (map1 e6)) (rden_any _ (q1) _ (h1.below (below_to st.bel hb))) rfl rfl
 ·intro a' w' hF' hb hd
  obtain⟨v5_0,e5,h5_1⟩:=sH hd 0 5 rfl rfl rfl rfl
  obtain⟨v7_0,e7,h7_1⟩:=sH hd 1 7 rfl rfl rfl rfl
  exact dc0 (r_call Tryz.func106 en106.1 en106.2 (map2 e5 e7)) (ratio_wc _ _ (-(Rat.num (q1))) (Rat.den (q1)) (-q1) _ h5_1 h7_1 rfl (fun _=>rfl)) rfl rfl
 intro a w3 hF bb hall hne
 replace st:=st.to bb
 obtain⟨vv4,e8,hh5⟩:=sS hall 5 8 rfl rfl
 replace st:=st.add hh5 (Rq.cl _)
 clear hh5
 clear hall hne bb
 obtain⟨b6,ad6,n6,c6,ae6,m6,d6,rfl⟩:=Rq.form (st.f 0 rfl)
 replace hF:=hF.add e8
 clear e8
 refine S.sto st hF 0 rfl (hF.at 1 rfl) (hF.at 0 rfl) ty_Rat rfl rfl rfl rfl fun w7 a st hF=>?_
 refine E.nil ?_
 refine wp_ret ?_
 refine S.ret Tryz.results121 st hF (hF.at 1 rfl) 0 rfl ty_Rat rfl hF.dfr ?_
 have bel:=st.bel
 have hh5:=(st.f 0 rfl)
 exact⟨_,rfl,hh5,bel⟩
theorem rAbs_any (v1:Value) (q1:Rat) (w:World) (h1:Rq w v1 q1):
 Calls Tryz.prog 224 #[v1] w (RqPost w (Rat.abs q1)):=by
 obtain⟨b1,ad1,n1,c1,ae1,m1,d1,rfl,hn1,hd1⟩:=h1.shape
 have h1:Rq w (.agg #[.bool b1,.slice ad1 n1 c1,.slice ae1 m1 d1]) q1:=⟨_,_,_,_,_,_,_,rfl,hn1,hd1⟩
 have ha1:=hn1.abs
 have hb1:=hn1.neg
 have HP:=Lib.hid (abs_parts q1)
 have st:=St.start w
 refine E.enter (nt:=10) (L:=[(0,.agg #[.bool b1,.slice ad1 n1 c1,.slice ae1 m1 d1])]) Tryz.func224 rfl rfl rfl (args_cons (i:=0) rfl args_nil) ?_
 intro a hF
 refine wp_seq ?_
 refine E.seq ?_
 refine S.box st hF (hF.at 0 rfl) rfl rfl fun g1 w1 a st hF=>?_
 refine S.alloc st hF ty_Rat rfl rfl fun g2 w2 a st hF=>?_
 refine E.nil ?_
 refine wp_seq ?_
 refine E.drawn 7 mixed hF [3,4,5,6,7,8,9] [(fun _ v=>v= .pointer (some ⟨g1,0,none⟩)),(fun _ v=>v= .pointer (some ⟨g1,1,none⟩)),(fun _ v=>v= .slice ad1 n1 c1),(fun w v=>Wc w v (sg false (Int.natAbs (Rat.num (q1))))),(fun _ v=>v= .agg #[.bool b1,.slice ad1 n1 c1,.slice ae1 m1 d1]),(fun w v=>Dg w .u32 B32 v (Rat.den (q1))),(fun w v=>Rq w v (Rat.abs q1))] [] (by decide+kernel) (by decide+kernel) rfl rfl rfl ⟨(Mb.eq _),(Mb.eq _),(Mb.eq _),(fun _ _ _ h hb=>h.below hb),(Mb.eq _),(fun _ _ _ h hb=>h.below hb),(fun _ _ _ h hb=>h.below hb),trivial⟩ trivial ⟨?_,?_,?_,?_,?_,?_,?_,trivial⟩ ?_
 ·intro a' w' hF' hb hd
  exact dv0 (r_field (hF'.at 1 rfl) (fa_Rat_0 (p:=0) rfl)) rfl rfl rfl
 ·intro a' w' hF' hb hd
  have e3:=sHe hd 0 3 rfl rfl rfl rfl
  exact dv0 (r_field e3 (fa_Int_1 (p:=1) rfl)) rfl rfl rfl
 ·intro a' w' hF' hb hd
  have e4:=sHe hd 0 4 rfl rfl rfl rfl
  exact dv0 (r_load e4 (ld_Nat (v:= .slice ad1 n1 c1) ((st.b 1 rfl rfl).below hb) rfl)) rfl rfl rfl
 ·intro a' w' hF' hb hd
  have e5:=sHe hd 0 5 rfl rfl rfl rfl
  exact dc0 (r_call Tryz.func130 en130.1 en130.2 (map2 ev_c e5)) (make_any _ _ (Int.natAbs (Rat.num (q1))) _ (Dg.nt (ha1.below (below_to st.bel hb)))) rfl rfl
 ·intro a' w' hF' hb hd
  exact dv0 (r_load (hF'.at 1 rfl) (ld_all ty_Rat ((st.bk 1 rfl).below hb) rfl)) rfl rfl rfl
 ·intro a' w' hF' hb hd
  have e7:=sHe hd 0 7 rfl rfl rfl rfl
  exact dc0 (r_call Tryz.func66 en66.1 en66.2 (map1 e7)) (rden_any _ (q1) _ (h1.below (below_to st.bel hb))) rfl rfl
 ·intro a' w' hF' hb hd
  obtain⟨v6_0,e6,h6_1⟩:=sH hd 0 6 rfl rfl rfl rfl
  obtain⟨v8_0,e8,h8_1⟩:=sH hd 1 8 rfl rfl rfl rfl
  exact dc0 (r_call Tryz.func106 en106.1 en106.2 (map2 e6 e8)) (ratio_wc _ _ (sg false (Int.natAbs (Rat.num (q1)))) (Rat.den (q1)) (Rat.abs q1) _ h6_1 h8_1 HP.out.1 (fun _=>HP.out.2)) rfl rfl
 intro a w3 hF bb hall hne
 replace st:=st.to bb
 obtain⟨vv4,e9,hh5⟩:=sS hall 6 9 rfl rfl
 replace st:=st.add hh5 (Rq.cl _)
 clear hh5
 clear hall hne bb
 obtain⟨b6,ad6,n6,c6,ae6,m6,d6,rfl⟩:=Rq.form (st.f 0 rfl)
 replace hF:=hF.add e9
 clear e9
 refine S.sto st hF 0 rfl (hF.at 1 rfl) (hF.at 0 rfl) ty_Rat rfl rfl rfl rfl fun w7 a st hF=>?_
 refine E.nil ?_
 refine wp_ret ?_
 refine S.ret Tryz.results224 st hF (hF.at 1 rfl) 0 rfl ty_Rat rfl hF.dfr ?_
 have bel:=st.bel
 have hh5:=(st.f 0 rfl)
 exact⟨_,rfl,hh5,bel⟩
theorem rOf2_any (n d:Int) (w:World) (b1: -9223372036854775808≤n) (b2:n≤9223372036854775807) (b3: -9223372036854775808≤d) (b4:d≤9223372036854775807):
 Calls Tryz.prog 35 #[.int .i64 n,.int .i64 d] w (RqPost w ((n:Rat)/(d:Rat))):=by
 have st:=St.start w
 refine E.enter (nt:=10) (L:=[(0,.int .i64 n),(1,.int .i64 d)]) Tryz.func35 rfl rfl rfl (args_cons (i:=0) rfl (args_cons (i:=1) rfl args_nil)) ?_
 intro a hF
 refine wp_seq ?_
 refine E.seq ?_
 refine S.alloc st hF ty_Rat rfl rfl fun g4 w1 a st hF=>?_
 refine E.nil ?_
 refine wp_seq ?_
 refine E.seq ?_
 refine E.opv hF (r_move (hF.at 1 rfl)) rfl rfl rfl rfl fun a hF=>?_
 refine S.call st hF (r_call Tryz.func101 en101.1 en101.2 (map1 (hF.at 0 rfl))) (whOf_any n _ b1 b2) (fun _ _ h=>h) Wc.cl rfl rfl rfl rfl fun vv3 w2 a st hF=>?_
 obtain⟨ad5,n5,c5,rfl,_⟩:=Wc.shape (st.f 0 rfl)
 refine E.opv hF (r_move (hF.at 4 rfl)) rfl rfl rfl rfl fun a hF=>?_
 refine S.call st hF (r_call Tryz.func101 en101.1 en101.2 (map1 (hF.at 0 rfl))) (whOf_any d _ b3 b4) (fun _ _ h=>h) Wc.cl rfl rfl rfl rfl fun vv7 w6 a st hF=>?_
 obtain⟨ad9,n9,c9,rfl,_⟩:=Wc.shape (st.f 0 rfl)
 refine S.call st hF (r_call Tryz.func100 en100.1 en100.2 (map2 (hF.at 2 rfl) (hF.at 0 rfl))) (rmk_any _ _ (n) (d) _ (Wc.wz (st.f 1 rfl)) (Wc.wz (st.f 0 rfl))) (fun _ _ h=>h) Rq.cl rfl rfl rfl rfl fun vv11 w10 a st hF=>?_
 obtain⟨b13,ad13,n13,c13,ae13,m13,d13,rfl⟩:=Rq.form (st.f 0 rfl)
 refine S.sto st hF 0 rfl (hF.at 5 rfl) (hF.at 0 rfl) ty_Rat rfl rfl rfl rfl fun w14 a st hF=>?_
 refine E.nil ?_
 refine wp_ret ?_
 refine S.ret Tryz.results35 st hF (hF.at 5 rfl) 0 rfl ty_Rat rfl hF.dfr ?_
 have bel:=st.bel
 have hh12:=(st.f 0 rfl)
 exact⟨_,rfl,hh12,bel⟩
theorem rWhole_any (n:Int) (w:World) (b1: -9223372036854775808≤n) (b2:n≤9223372036854775807):
 Calls Tryz.prog 40 #[.int .i64 n] w (RqPost w (n:Rat)):=by
 have st:=St.start w
 refine E.enter (nt:=7) (L:=[(0,.int .i64 n)]) Tryz.func40 rfl rfl rfl (args_cons (i:=0) rfl args_nil) ?_
 intro a hF
 refine wp_seq ?_
 refine E.seq ?_
 refine S.alloc st hF ty_Rat rfl rfl fun g2 w1 a st hF=>?_
 refine E.nil ?_
 refine wp_seq ?_
 refine E.seq ?_
 refine E.opv hF (r_move (hF.at 1 rfl)) rfl rfl rfl rfl fun a hF=>?_
 refine S.call st hF (r_call Tryz.func101 en101.1 en101.2 (map1 (hF.at 0 rfl))) (whOf_any n _ b1 b2) (fun _ _ h=>h) Wc.cl rfl rfl rfl rfl fun vv3 w2 a st hF=>?_
 obtain⟨ad5,n5,c5,rfl,_⟩:=Wc.shape (st.f 0 rfl)
 refine S.call st hF (r_call Tryz.func70 en70.1 en70.2 (map1 ev_c)) (of_any 1 _ (by decide)) (fun _ _ h=>h) Dg.cl rfl rfl rfl rfl fun vv7 w6 a st hF=>?_
 obtain⟨ad9,n9,c9,rfl⟩:=Dg.form (st.f 0 rfl)
 refine S.call st hF (r_call Tryz.func106 en106.1 en106.2 (map2 (hF.at 1 rfl) (hF.at 0 rfl))) (ratio_wc _ _ (n) (1) ((n:Rat)) _ (st.f 1 rfl) (st.f 0 rfl) rfl (fun _=>rfl)) (fun _ _ h=>h) Rq.cl rfl rfl rfl rfl fun vv11 w10 a st hF=>?_
 obtain⟨b13,ad13,n13,c13,ae13,m13,d13,rfl⟩:=Rq.form (st.f 0 rfl)
 refine S.sto st hF 0 rfl (hF.at 4 rfl) (hF.at 0 rfl) ty_Rat rfl rfl rfl rfl fun w14 a st hF=>?_
 refine E.nil ?_
 refine wp_ret ?_
 refine S.ret Tryz.results40 st hF (hF.at 4 rfl) 0 rfl ty_Rat rfl hF.dfr ?_
 have bel:=st.bel
 have hh12:=(st.f 0 rfl)
 exact⟨_,rfl,hh12,bel⟩
theorem rAdd_any (v1 v2:Value) (q1 q2:Rat) (k:Nat) (w:World) (h1:Rq w v1 q1) (h2:Rq w v2 q2) (l1:RLim q1 k) (l2:RLim q2 k) (hk:k≤100000):
 Calls Tryz.prog 56 #[v1,v2] w (RqPost w (q1+q2)):=by
 obtain⟨b1,ad1,n1,c1,ae1,m1,d1,rfl,hn1,hd1⟩:=h1.shape
 have h1:Rq w (.agg #[.bool b1,.slice ad1 n1 c1,.slice ae1 m1 d1]) q1:=⟨_,_,_,_,_,_,_,rfl,hn1,hd1⟩
 have ha1:=hn1.abs
 have hb1:=hn1.neg
 obtain⟨b2,ad2,n2,c2,ae2,m2,d2,rfl,hn2,hd2⟩:=h2.shape
 have h2:Rq w (.agg #[.bool b2,.slice ad2 n2 c2,.slice ae2 m2 d2]) q2:=⟨_,_,_,_,_,_,_,rfl,hn2,hd2⟩
 have ha2:=hn2.abs
 have hb2:=hn2.neg
 have HP:=Lib.hid (add_parts q1 q2)
 have st:=St.start w
 refine E.enter (nt:=47) (L:=[(0,.agg #[.bool b1,.slice ad1 n1 c1,.slice ae1 m1 d1]),(1,.agg #[.bool b2,.slice ad2 n2 c2,.slice ae2 m2 d2])]) Tryz.func56 rfl rfl rfl (args_cons (i:=0) rfl (args_cons (i:=1) rfl args_nil)) ?_
 intro a hF
 refine wp_seq ?_
 refine E.seq ?_
 refine S.box st hF (hF.at 0 rfl) rfl rfl fun g2 w1 a st hF=>?_
 refine S.box st hF (hF.at 2 rfl) rfl rfl fun g3 w2 a st hF=>?_
 refine S.alloc st hF ty_Rat rfl rfl fun g4 w3 a st hF=>?_
 refine E.nil ?_
 refine wp_seq ?_
 refine E.drawn 6 mixed hF [9,10,11,12,13,5] [(fun _ v=>v= .agg #[.bool b1,.slice ad1 n1 c1,.slice ae1 m1 d1]),(fun w v=>Dg w .u32 B32 v (Rat.den (q1))),(fun _ v=>v= .agg #[.bool b2,.slice ad2 n2 c2,.slice ae2 m2 d2]),(fun w v=>Dg w .u32 B32 v (Rat.den (q2))),(fun w v=>Dg w .u32 B32 v (Nat.gcd (Rat.den (q1)) (Rat.den (q2)))),(fun w v=>Dg w .u32 B32 v (Nat.gcd (Rat.den (q1)) (Rat.den (q2))))] [] (by decide+kernel) (by decide+kernel) rfl rfl rfl ⟨(Mb.eq _),(fun _ _ _ h hb=>h.below hb),(Mb.eq _),(fun _ _ _ h hb=>h.below hb),(fun _ _ _ h hb=>h.below hb),(fun _ _ _ h hb=>h.below hb),trivial⟩ trivial ⟨?_,?_,?_,?_,?_,?_,trivial⟩ ?_
 ·intro a' w' hF' hb hd
  exact dv0 (r_load (hF'.at 2 rfl) (ld_all ty_Rat ((st.bk 2 rfl).below hb) rfl)) rfl rfl rfl
 ·intro a' w' hF' hb hd
  have e9:=sHe hd 0 9 rfl rfl rfl rfl
  exact dc0 (r_call Tryz.func94 en94.1 en94.2 (map1 e9)) (rbelow_any _ (q1) _ (h1.below (below_to st.bel hb))) rfl rfl
 ·intro a' w' hF' hb hd
  exact dv0 (r_load (hF'.at 1 rfl) (ld_all ty_Rat ((st.bk 1 rfl).below hb) rfl)) rfl rfl rfl
 ·intro a' w' hF' hb hd
  have e11:=sHe hd 0 11 rfl rfl rfl rfl
  exact dc0 (r_call Tryz.func94 en94.1 en94.2 (map1 e11)) (rbelow_any _ (q2) _ (h2.below (below_to st.bel hb))) rfl rfl
 ·intro a' w' hF' hb hd
  obtain⟨v10_0,e10,h10_1⟩:=sH hd 0 10 rfl rfl rfl rfl
  obtain⟨v12_0,e12,h12_1⟩:=sH hd 1 12 rfl rfl rfl rfl
  exact dc0 (r_call Tryz.func68 en68.1 en68.2 (map2 e10 e12)) (gcd_any _ _ (Rat.den (q1)) (Rat.den (q2)) _ (Dg.nt h10_1) (Dg.nt h12_1)) rfl rfl
 ·intro a' w' hF' hb hd
  obtain⟨v13_0,e13,h13_1⟩:=sH hd 0 13 rfl rfl rfl rfl
  exact dv0 (r_assign e13) h13_1 rfl rfl
 intro a w4 hF bb hall hne
 replace st:=st.to bb
 obtain⟨vv5,e5,hh6⟩:=sS hall 5 5 rfl rfl
 replace st:=st.add hh6 (Dg.cl _)
 clear hh6
 clear hall hne bb
 obtain⟨ad7,n7,c7,rfl⟩:=Dg.form (st.f 0 rfl)
 replace hF:=hF.add e5
 clear e5
 refine E.nil ?_
 refine wp_seq ?_
 refine E.seq ?_
 refine E.opv hF (r_load (hF.at 3 rfl) (ld_all ty_Rat (st.bk 2 rfl) rfl)) rfl rfl rfl rfl fun a hF=>?_
 refine S.call st hF (r_call Tryz.func94 en94.1 en94.2 (map1 (hF.at 0 rfl))) (rbelow_any _ (q1) _ (h1.below st.bel)) (fun _ _ h=>h) Dg.cl rfl rfl rfl rfl fun vv9 w8 a st hF=>?_
 obtain⟨ad11,n11,c11,rfl⟩:=Dg.form (st.f 0 rfl)
 refine E.opv hF (r_move (hF.at 2 rfl)) rfl rfl rfl rfl fun a hF=>?_
 refine S.call st hF (r_call Tryz.func118 en118.1 en118.2 (map2 (hF.at 1 rfl) (hF.at 0 rfl))) (rby_any _ _ (Rat.den (q1)) (Nat.gcd (Rat.den (q1)) (Rat.den (q2))) _ (Dg.nt (st.f 0 rfl)) (Dg.nt (st.f 1 rfl))) (fun _ _ h=>h) Dg.cl rfl rfl rfl rfl fun vv13 w12 a st hF=>?_
 obtain⟨ad15,n15,c15,rfl⟩:=Dg.form (st.f 0 rfl)
 refine E.opv hF (r_assign (hF.at 0 rfl)) rfl rfl rfl rfl fun a hF=>?_
 refine E.nil ?_
 refine wp_seq ?_
 refine E.drawn 13 mixed hF [18,19,20,21,22,23,24,25,26,27,28,29,7] [(fun _ v=>v= .pointer (some ⟨g2,0,none⟩)),(fun _ v=>v= .agg #[.bool b1,.slice ad1 n1 c1]),(fun _ v=>v= .agg #[.bool b2,.slice ad2 n2 c2,.slice ae2 m2 d2]),(fun w v=>Dg w .u32 B32 v (Rat.den (q2))),(fun _ v=>v= .slice ad7 n7 c7),(fun w v=>Dg w .u32 B32 v ((Rat.den (q2))/(Nat.gcd (Rat.den (q1)) (Rat.den (q2))))),(fun w v=>Wc w v ((Rat.num (q1))*(((Rat.den (q2))/(Nat.gcd (Rat.den (q1)) (Rat.den (q2))):Nat):Int))),(fun _ v=>v= .pointer (some ⟨g3,0,none⟩)),(fun _ v=>v= .agg #[.bool b2,.slice ad2 n2 c2]),(fun _ v=>v= .slice ad15 n15 c15),(fun w v=>Wc w v ((Rat.num (q2))*(((Rat.den (q1))/(Nat.gcd (Rat.den (q1)) (Rat.den (q2))):Nat):Int))),(fun w v=>Wc w v (((Rat.num (q1))*(((Rat.den (q2))/(Nat.gcd (Rat.den (q1)) (Rat.den (q2))):Nat):Int))+((Rat.num (q2))*(((Rat.den (q1))/(Nat.gcd (Rat.den (q1)) (Rat.den (q2))):Nat):Int)))),(fun w v=>∃g,v= .pointer (some ⟨g,0,none⟩)∧w12.heap.size≤g∧Own w g [.bool false,.slice none 0 0])] [12] (by decide+kernel) (by decide+kernel) rfl rfl rfl ⟨(Mb.eq _),(Mb.eq _),(Mb.eq _),(fun _ _ _ h hb=>h.below hb),(Mb.eq _),(fun _ _ _ h hb=>h.below hb),(fun _ _ _ h hb=>h.below hb),(Mb.eq _),(Mb.eq _),(Mb.eq _),(fun _ _ _ h hb=>h.below hb),(fun _ _ _ h hb=>h.below hb),(fun _ _ _ ⟨g,e,l,o⟩ hb=>⟨g,e,l,o.below hb⟩),trivial⟩ ⟨fun _ _ ⟨g,e,_,o⟩=>⟨g,e,o.lt⟩,trivial⟩ ⟨?_,?_,?_,?_,?_,?_,?_,?_,?_,?_,?_,?_,?_,trivial⟩ ?_
 ·intro a' w' hF' hb hd
  exact dv0 (r_field (hF'.at 8 rfl) (fa_Rat_0 (p:=0) rfl)) rfl rfl rfl
 ·intro a' w' hF' hb hd
  have e18:=sHe hd 0 18 rfl rfl rfl rfl
  exact dv0 (r_load e18 (ld_Int (vs:=[.bool b1,.slice ad1 n1 c1]) ((st.b 2 rfl rfl).below hb) rfl rfl)) rfl rfl rfl
 ·intro a' w' hF' hb hd
  exact dv0 (r_load (hF'.at 7 rfl) (ld_all ty_Rat ((st.bk 1 rfl).below hb) rfl)) rfl rfl rfl
 ·intro a' w' hF' hb hd
  have e20:=sHe hd 0 20 rfl rfl rfl rfl
  exact dc0 (r_call Tryz.func94 en94.1 en94.2 (map1 e20)) (rbelow_any _ (q2) _ (h2.below (below_to st.bel hb))) rfl rfl
 ·intro a' w' hF' hb hd
  exact dv0 (r_move (hF'.at 5 rfl)) rfl rfl rfl
 ·intro a' w' hF' hb hd
  obtain⟨v21_0,e21,h21_1⟩:=sH hd 0 21 rfl rfl rfl rfl
  have e22:=sHe hd 1 22 rfl rfl rfl rfl
  exact dc0 (r_call Tryz.func118 en118.1 en118.2 (map2 e21 e22)) (rby_any _ _ (Rat.den (q2)) (Nat.gcd (Rat.den (q1)) (Rat.den (q2))) _ (Dg.nt h21_1) (Dg.nt ((st.f 2 rfl).below hb))) rfl rfl
 ·intro a' w' hF' hb hd
  have e19:=sHe hd 0 19 rfl rfl rfl rfl
  obtain⟨v23_0,e23,h23_1⟩:=sH hd 1 23 rfl rfl rfl rfl
  exact dc0 (r_call Tryz.func93 en93.1 en93.2 (map2 e19 e23)) (rtimes_any _ _ (Rat.num (q1)) ((Rat.den (q2))/(Nat.gcd (Rat.den (q1)) (Rat.den (q2)))) k k _ (Wc.wz (hn1.below (below_to st.bel hb))) (Dg.nt h23_1) (l1.1) (div_lim (l2.2)) (by omega) (by omega)) rfl rfl
 ·intro a' w' hF' hb hd
  exact dv0 (r_field (hF'.at 7 rfl) (fa_Rat_0 (p:=0) rfl)) rfl rfl rfl
 ·intro a' w' hF' hb hd
  have e25:=sHe hd 0 25 rfl rfl rfl rfl
  exact dv0 (r_load e25 (ld_Int (vs:=[.bool b2,.slice ad2 n2 c2]) ((st.b 1 rfl rfl).below hb) rfl rfl)) rfl rfl rfl
 ·intro a' w' hF' hb hd
  exact dv0 (r_move (hF'.at 0 rfl)) rfl rfl rfl
 ·intro a' w' hF' hb hd
  have e26:=sHe hd 0 26 rfl rfl rfl rfl
  have e27:=sHe hd 1 27 rfl rfl rfl rfl
  exact dc0 (r_call Tryz.func93 en93.1 en93.2 (map2 e26 e27)) (rtimes_any _ _ (Rat.num (q2)) ((Rat.den (q1))/(Nat.gcd (Rat.den (q1)) (Rat.den (q2)))) k k _ (Wc.wz (hn2.below (below_to st.bel hb))) (Dg.nt ((st.f 0 rfl).below hb)) (l2.1) (div_lim (l1.2)) (by omega) (by omega)) rfl rfl
 ·intro a' w' hF' hb hd
  obtain⟨v24_0,e24,h24_1⟩:=sH hd 0 24 rfl rfl rfl rfl
  obtain⟨v28_0,e28,h28_1⟩:=sH hd 1 28 rfl rfl rfl rfl
  exact dc0 (r_call Tryz.func119 en119.1 en119.2 (map2 e24 e28)) (whAdd_any _ _ _ _ (k+k) (k+k) _ (Wc.wz h24_1) (Wc.wz h28_1) (limz_mul (l1.1) (div_lim (l2.2))) (limz_mul (l2.1) (div_lim (l1.2))) (by omega) (by omega)) rfl rfl
 ·intro a' w' hF' hb hd
  exact da0 ty_Int rfl hb.size rfl
 intro a w16 hF bb hall hne
 have s0:=st
 replace st:=st.to bb
 obtain⟨vv17,e29,hh18⟩:=sS hall 11 29 rfl rfl
 replace st:=st.add hh18 (Wc.cl _)
 clear hh18
 obtain⟨_,e7,g7,rfl,ge7,o7⟩:=sS hall 12 7 rfl rfl
 replace st:=st.push o7.blk (Nat.le_trans s0.bel.size ge7) (s0.ne ge7)
 clear o7
 clear hall hne bb s0
 obtain⟨ad19,n19,c19,rfl,_⟩:=Wc.shape (st.f 0 rfl)
 replace hF:=hF.add e29
 clear e29
 replace hF:=hF.add e7
 clear e7
 refine S.sto st hF 0 rfl (hF.at 0 rfl) (hF.at 1 rfl) ty_Int rfl rfl rfl rfl fun w20 a st hF=>?_
 have hf21:=Wc.abs (st.f 0 rfl)
 replace st:=st.add hf21 (Dg.cl _)
 clear hf21
 refine E.nil ?_
 refine wp_seq ?_
 refine E.seq ?_
 refine E.opv hF (r_field (hF.at 0 rfl) (fa_Int_1 (p:=1) rfl)) rfl rfl rfl rfl fun a hF=>?_
 refine E.opv hF (r_load (hF.at 0 rfl) (ld_Nat (v:= .slice ad19 n19 c19) (st.b 0 rfl rfl) rfl)) rfl rfl rfl rfl fun a hF=>?_
 refine E.opv hF (r_move (hF.at 9 rfl)) rfl rfl rfl rfl fun a hF=>?_
 refine S.call st hF (r_call Tryz.func68 en68.1 en68.2 (map2 (hF.at 1 rfl) (hF.at 0 rfl))) (gcd_any _ _ (Int.natAbs (((Rat.num (q1))*(((Rat.den (q2))/(Nat.gcd (Rat.den (q1)) (Rat.den (q2))):Nat):Int))+((Rat.num (q2))*(((Rat.den (q1))/(Nat.gcd (Rat.den (q1)) (Rat.den (q2))):Nat):Int)))) (Nat.gcd (Rat.den (q1)) (Rat.den (q2))) _ (Dg.nt (st.f 0 rfl)) (Dg.nt (st.f 4 rfl))) (fun _ _ h=>h) Dg.cl rfl rfl rfl rfl fun vv23 w22 a st hF=>?_
 obtain⟨ad25,n25,c25,rfl⟩:=Dg.form (st.f 0 rfl)
 refine E.opv hF (r_assign (hF.at 0 rfl)) rfl rfl rfl rfl fun a hF=>?_
 refine E.nil ?_
 refine wp_seq ?_
 refine E.seq ?_
 refine E.opv hF (r_field (hF.at 5 rfl) (fa_Int_1 (p:=1) rfl)) rfl rfl rfl rfl fun a hF=>?_
 refine E.opv hF (r_load (hF.at 0 rfl) (ld_Nat (v:= .slice ad19 n19 c19) (st.b 0 rfl rfl) rfl)) rfl rfl rfl rfl fun a hF=>?_
 refine E.opv hF (r_move (hF.at 2 rfl)) rfl rfl rfl rfl fun a hF=>?_
 refine S.call st hF (r_call Tryz.func118 en118.1 en118.2 (map2 (hF.at 1 rfl) (hF.at 0 rfl))) (rby_any _ _ (Int.natAbs (((Rat.num (q1))*(((Rat.den (q2))/(Nat.gcd (Rat.den (q1)) (Rat.den (q2))):Nat):Int))+((Rat.num (q2))*(((Rat.den (q1))/(Nat.gcd (Rat.den (q1)) (Rat.den (q2))):Nat):Int)))) (Nat.gcd (Int.natAbs (((Rat.num (q1))*(((Rat.den (q2))/(Nat.gcd (Rat.den (q1)) (Rat.den (q2))):Nat):Int))+((Rat.num (q2))*(((Rat.den (q1))/(Nat.gcd (Rat.den (q1)) (Rat.den (q2))):Nat):Int)))) (Nat.gcd (Rat.den (q1)) (Rat.den (q2)))) _ (Dg.nt (st.f 1 rfl)) (Dg.nt (st.f 0 rfl))) (fun _ _ h=>h) Dg.cl rfl rfl rfl rfl fun vv27 w26 a st hF=>?_
 obtain⟨ad29,n29,c29,rfl⟩:=Dg.form (st.f 0 rfl)
 refine E.opv hF (r_field (hF.at 9 rfl) (fa_Int_1 (p:=1) rfl)) rfl rfl rfl rfl fun a hF=>?_
 refine S.stoo (o:=1) (vs:=[.slice ad29 n29 c29]) (ws:=[.bool (decide (((Rat.num (q1))*(((Rat.den (q2))/(Nat.gcd (Rat.den (q1)) (Rat.den (q2))):Nat):Int))+((Rat.num (q2))*(((Rat.den (q1))/(Nat.gcd (Rat.den (q1)) (Rat.den (q2))):Nat):Int))<0)),.slice ad29 n29 c29]) st hF 0 rfl (hF.at 0 rfl) (hF.at 1 rfl) rfl sz_Nat rfl rfl rfl rfl rfl fun w30 a st hF=>?_
 refine E.nil ?_
 refine wp_seq ?_
 refine E.drawn 8 mixed hF [39,40,41,42,43,44,45,46] [(fun _ v=>v= .agg #[.bool (decide (((Rat.num (q1))*(((Rat.den (q2))/(Nat.gcd (Rat.den (q1)) (Rat.den (q2))):Nat):Int))+((Rat.num (q2))*(((Rat.den (q1))/(Nat.gcd (Rat.den (q1)) (Rat.den (q2))):Nat):Int))<0)),.slice ad29 n29 c29]),(fun _ v=>v= .slice ad15 n15 c15),(fun _ v=>v= .agg #[.bool b2,.slice ad2 n2 c2,.slice ae2 m2 d2]),(fun w v=>Dg w .u32 B32 v (Rat.den (q2))),(fun _ v=>v= .slice ad25 n25 c25),(fun w v=>Dg w .u32 B32 v ((Rat.den (q2))/(Nat.gcd (Int.natAbs (((Rat.num (q1))*(((Rat.den (q2))/(Nat.gcd (Rat.den (q1)) (Rat.den (q2))):Nat):Int))+((Rat.num (q2))*(((Rat.den (q1))/(Nat.gcd (Rat.den (q1)) (Rat.den (q2))):Nat):Int)))) (Nat.gcd (Rat.den (q1)) (Rat.den (q2)))))),(fun w v=>Dg w .u32 B32 v (((Rat.den (q1))/(Nat.gcd (Rat.den (q1)) (Rat.den (q2))))*((Rat.den (q2))/(Nat.gcd (Int.natAbs (((Rat.num (q1))*(((Rat.den (q2))/(Nat.gcd (Rat.den (q1)) (Rat.den (q2))):Nat):Int))+((Rat.num (q2))*(((Rat.den (q1))/(Nat.gcd (Rat.den (q1)) (Rat.den (q2))):Nat):Int)))) (Nat.gcd (Rat.den (q1)) (Rat.den (q2))))))),(fun w v=>Rq w v (q1+q2))] [] (by decide+kernel) (by decide+kernel) rfl rfl rfl ⟨(Mb.eq _),(Mb.eq _),(Mb.eq _),(fun _ _ _ h hb=>h.below hb),(Mb.eq _),(fun _ _ _ h hb=>h.below hb),(fun _ _ _ h hb=>h.below hb),(fun _ _ _ h hb=>h.below hb),trivial⟩ trivial ⟨?_,?_,?_,?_,?_,?_,?_,?_,trivial⟩ ?_
 ·intro a' w' hF' hb hd
  exact dv0 (r_load (hF'.at 10 rfl) (ld_all ty_Int ((st.bk 0 rfl).below hb) rfl)) rfl rfl rfl
 ·intro a' w' hF' hb hd
  exact dv0 (r_move (hF'.at 12 rfl)) rfl rfl rfl
 ·intro a' w' hF' hb hd
  exact dv0 (r_load (hF'.at 19 rfl) (ld_all ty_Rat ((st.bk 2 rfl).below hb) rfl)) rfl rfl rfl
 ·intro a' w' hF' hb hd
  have e41:=sHe hd 0 41 rfl rfl rfl rfl
  exact dc0 (r_call Tryz.func94 en94.1 en94.2 (map1 e41)) (rbelow_any _ (q2) _ (h2.below (below_to st.bel hb))) rfl rfl
 ·intro a' w' hF' hb hd
  exact dv0 (r_move (hF'.at 5 rfl)) rfl rfl rfl
 ·intro a' w' hF' hb hd
  obtain⟨v42_0,e42,h42_1⟩:=sH hd 0 42 rfl rfl rfl rfl
  have e43:=sHe hd 1 43 rfl rfl rfl rfl
  exact dc0 (r_call Tryz.func118 en118.1 en118.2 (map2 e42 e43)) (rby_any _ _ (Rat.den (q2)) (Nat.gcd (Int.natAbs (((Rat.num (q1))*(((Rat.den (q2))/(Nat.gcd (Rat.den (q1)) (Rat.den (q2))):Nat):Int))+((Rat.num (q2))*(((Rat.den (q1))/(Nat.gcd (Rat.den (q1)) (Rat.den (q2))):Nat):Int)))) (Nat.gcd (Rat.den (q1)) (Rat.den (q2)))) _ (Dg.nt h42_1) (Dg.nt ((st.f 1 rfl).below hb))) rfl rfl
 ·intro a' w' hF' hb hd
  have e40:=sHe hd 0 40 rfl rfl rfl rfl
  obtain⟨v44_0,e44,h44_1⟩:=sH hd 1 44 rfl rfl rfl rfl
  exact dc0 (r_call Tryz.func120 en120.1 en120.2 (map2 e40 e44)) (mul_any _ _ ((Rat.den (q1))/(Nat.gcd (Rat.den (q1)) (Rat.den (q2)))) ((Rat.den (q2))/(Nat.gcd (Int.natAbs (((Rat.num (q1))*(((Rat.den (q2))/(Nat.gcd (Rat.den (q1)) (Rat.den (q2))):Nat):Int))+((Rat.num (q2))*(((Rat.den (q1))/(Nat.gcd (Rat.den (q1)) (Rat.den (q2))):Nat):Int)))) (Nat.gcd (Rat.den (q1)) (Rat.den (q2))))) _ (Dg.nt ((st.f 4 rfl).below hb)) (Dg.nt h44_1) (Lim.dl (div_lim (l1.2)) _ (by omega)) (Lim.dl (div_lim (l2.2)) _ (by omega))) rfl rfl
 ·intro a' w' hF' hb hd
  have e39:=sHe hd 0 39 rfl rfl rfl rfl
  obtain⟨v45_0,e45,h45_1⟩:=sH hd 1 45 rfl rfl rfl rfl
  exact dc0 (r_call Tryz.func106 en106.1 en106.2 (map2 e39 e45)) (ratio_any _ _ _ ((Int.natAbs (((Rat.num (q1))*(((Rat.den (q2))/(Nat.gcd (Rat.den (q1)) (Rat.den (q2))):Nat):Int))+((Rat.num (q2))*(((Rat.den (q1))/(Nat.gcd (Rat.den (q1)) (Rat.den (q2))):Nat):Int))))/(Nat.gcd (Int.natAbs (((Rat.num (q1))*(((Rat.den (q2))/(Nat.gcd (Rat.den (q1)) (Rat.den (q2))):Nat):Int))+((Rat.num (q2))*(((Rat.den (q1))/(Nat.gcd (Rat.den (q1)) (Rat.den (q2))):Nat):Int)))) (Nat.gcd (Rat.den (q1)) (Rat.den (q2))))) (((Rat.den (q1))/(Nat.gcd (Rat.den (q1)) (Rat.den (q2))))*((Rat.den (q2))/(Nat.gcd (Int.natAbs (((Rat.num (q1))*(((Rat.den (q2))/(Nat.gcd (Rat.den (q1)) (Rat.den (q2))):Nat):Int))+((Rat.num (q2))*(((Rat.den (q1))/(Nat.gcd (Rat.den (q1)) (Rat.den (q2))):Nat):Int)))) (Nat.gcd (Rat.den (q1)) (Rat.den (q2)))))) (q1+q2) _ ((st.f 0 rfl).below hb) h45_1 HP.out.1 (fun _=>HP.out.2)) rfl rfl
 intro a w31 hF bb hall hne
 replace st:=st.to bb
 obtain⟨vv32,e46,hh33⟩:=sS hall 7 46 rfl rfl
 replace st:=st.add hh33 (Rq.cl _)
 clear hh33
 clear hall hne bb
 obtain⟨b34,ad34,n34,c34,ae34,m34,d34,rfl⟩:=Rq.form (st.f 0 rfl)
 replace hF:=hF.add e46
 clear e46
 refine S.sto st hF 1 rfl (hF.at 19 rfl) (hF.at 0 rfl) ty_Rat rfl rfl rfl rfl fun w35 a st hF=>?_
 refine E.nil ?_
 refine wp_ret ?_
 refine S.ret Tryz.results56 st hF (hF.at 19 rfl) 1 rfl ty_Rat rfl hF.dfr ?_
 have bel:=st.bel
 have hh33:=(st.f 0 rfl)
 exact⟨_,rfl,hh33,bel⟩
theorem rMul_any (v1 v2:Value) (q1 q2:Rat) (k:Nat) (w:World) (h1:Rq w v1 q1) (h2:Rq w v2 q2) (l1:RLim q1 k) (l2:RLim q2 k) (hk:k≤100000):
 Calls Tryz.prog 58 #[v1,v2] w (RqPost w (q1*q2)):=by
 obtain⟨b1,ad1,n1,c1,ae1,m1,d1,rfl,hn1,hd1⟩:=h1.shape
 have h1:Rq w (.agg #[.bool b1,.slice ad1 n1 c1,.slice ae1 m1 d1]) q1:=⟨_,_,_,_,_,_,_,rfl,hn1,hd1⟩
 have ha1:=hn1.abs
 have hb1:=hn1.neg
 obtain⟨b2,ad2,n2,c2,ae2,m2,d2,rfl,hn2,hd2⟩:=h2.shape
 have h2:Rq w (.agg #[.bool b2,.slice ad2 n2 c2,.slice ae2 m2 d2]) q2:=⟨_,_,_,_,_,_,_,rfl,hn2,hd2⟩
 have ha2:=hn2.abs
 have hb2:=hn2.neg
 have HP:=mul_parts q1 q2
 rw[←hb1,←hb2] at HP
 replace HP:=Lib.hid HP
 have st:=St.start w
 refine E.enter (nt:=52) (L:=[(0,.agg #[.bool b1,.slice ad1 n1 c1,.slice ae1 m1 d1]),(1,.agg #[.bool b2,.slice ad2 n2 c2,.slice ae2 m2 d2])]) Tryz.func58 rfl rfl rfl (args_cons (i:=0) rfl (args_cons (i:=1) rfl args_nil)) ?_
 intro a hF
 refine wp_seq ?_
 refine E.seq ?_
 refine S.box st hF (hF.at 0 rfl) rfl rfl fun g2 w1 a st hF=>?_
 refine S.box st hF (hF.at 2 rfl) rfl rfl fun g3 w2 a st hF=>?_
 refine S.alloc st hF ty_Rat rfl rfl fun g4 w3 a st hF=>?_
 refine E.nil ?_
 refine wp_seq ?_
 refine E.drawn 14 mixed hF [9,10,11,12,13,14,15,16,17,18,19,20,5,6] [(fun _ v=>v= .pointer (some ⟨g2,0,none⟩)),(fun _ v=>v= .pointer (some ⟨g2,1,none⟩)),(fun _ v=>v= .slice ad1 n1 c1),(fun _ v=>v= .agg #[.bool b2,.slice ad2 n2 c2,.slice ae2 m2 d2]),(fun w v=>Dg w .u32 B32 v (Rat.den (q2))),(fun w v=>Dg w .u32 B32 v (Nat.gcd (Int.natAbs (Rat.num (q1))) (Rat.den (q2)))),(fun _ v=>v= .pointer (some ⟨g3,0,none⟩)),(fun _ v=>v= .pointer (some ⟨g3,1,none⟩)),(fun _ v=>v= .slice ad2 n2 c2),(fun _ v=>v= .agg #[.bool b1,.slice ad1 n1 c1,.slice ae1 m1 d1]),(fun w v=>Dg w .u32 B32 v (Rat.den (q1))),(fun w v=>Dg w .u32 B32 v (Nat.gcd (Int.natAbs (Rat.num (q2))) (Rat.den (q1)))),(fun w v=>Dg w .u32 B32 v (Nat.gcd (Int.natAbs (Rat.num (q1))) (Rat.den (q2)))),(fun w v=>Dg w .u32 B32 v (Nat.gcd (Int.natAbs (Rat.num (q2))) (Rat.den (q1))))] [] (by decide+kernel) (by decide+kernel) rfl rfl rfl ⟨(Mb.eq _),(Mb.eq _),(Mb.eq _),(Mb.eq _),(fun _ _ _ h hb=>h.below hb),(fun _ _ _ h hb=>h.below hb),(Mb.eq _),(Mb.eq _),(Mb.eq _),(Mb.eq _),(fun _ _ _ h hb=>h.below hb),(fun _ _ _ h hb=>h.below hb),(fun _ _ _ h hb=>h.below hb),(fun _ _ _ h hb=>h.below hb),trivial⟩ trivial ⟨?_,?_,?_,?_,?_,?_,?_,?_,?_,?_,?_,?_,?_,?_,trivial⟩ ?_
 ·intro a' w' hF' hb hd
  exact dv0 (r_field (hF'.at 2 rfl) (fa_Rat_0 (p:=0) rfl)) rfl rfl rfl
 ·intro a' w' hF' hb hd
  have e9:=sHe hd 0 9 rfl rfl rfl rfl
  exact dv0 (r_field e9 (fa_Int_1 (p:=1) rfl)) rfl rfl rfl
 ·intro a' w' hF' hb hd
  have e10:=sHe hd 0 10 rfl rfl rfl rfl
  exact dv0 (r_load e10 (ld_Nat (v:= .slice ad1 n1 c1) ((st.b 2 rfl rfl).below hb) rfl)) rfl rfl rfl
 ·intro a' w' hF' hb hd
  exact dv0 (r_load (hF'.at 1 rfl) (ld_all ty_Rat ((st.bk 1 rfl).below hb) rfl)) rfl rfl rfl
 ·intro a' w' hF' hb hd
  have e12:=sHe hd 0 12 rfl rfl rfl rfl
  exact dc0 (r_call Tryz.func94 en94.1 en94.2 (map1 e12)) (rbelow_any _ (q2) _ (h2.below (below_to st.bel hb))) rfl rfl
 ·intro a' w' hF' hb hd
  have e11:=sHe hd 0 11 rfl rfl rfl rfl
  obtain⟨v13_0,e13,h13_1⟩:=sH hd 1 13 rfl rfl rfl rfl
  exact dc0 (r_call Tryz.func68 en68.1 en68.2 (map2 e11 e13)) (gcd_any _ _ (Int.natAbs (Rat.num (q1))) (Rat.den (q2)) _ (Dg.nt (ha1.below (below_to st.bel hb))) (Dg.nt h13_1)) rfl rfl
 ·intro a' w' hF' hb hd
  exact dv0 (r_field (hF'.at 1 rfl) (fa_Rat_0 (p:=0) rfl)) rfl rfl rfl
 ·intro a' w' hF' hb hd
  have e15:=sHe hd 0 15 rfl rfl rfl rfl
  exact dv0 (r_field e15 (fa_Int_1 (p:=1) rfl)) rfl rfl rfl
 ·intro a' w' hF' hb hd
  have e16:=sHe hd 0 16 rfl rfl rfl rfl
  exact dv0 (r_load e16 (ld_Nat (v:= .slice ad2 n2 c2) ((st.b 1 rfl rfl).below hb) rfl)) rfl rfl rfl
 ·intro a' w' hF' hb hd
  exact dv0 (r_load (hF'.at 2 rfl) (ld_all ty_Rat ((st.bk 2 rfl).below hb) rfl)) rfl rfl rfl
 ·intro a' w' hF' hb hd
  have e18:=sHe hd 0 18 rfl rfl rfl rfl
  exact dc0 (r_call Tryz.func94 en94.1 en94.2 (map1 e18)) (rbelow_any _ (q1) _ (h1.below (below_to st.bel hb))) rfl rfl
 ·intro a' w' hF' hb hd
  have e17:=sHe hd 0 17 rfl rfl rfl rfl
  obtain⟨v19_0,e19,h19_1⟩:=sH hd 1 19 rfl rfl rfl rfl
  exact dc0 (r_call Tryz.func68 en68.1 en68.2 (map2 e17 e19)) (gcd_any _ _ (Int.natAbs (Rat.num (q2))) (Rat.den (q1)) _ (Dg.nt (ha2.below (below_to st.bel hb))) (Dg.nt h19_1)) rfl rfl
 ·intro a' w' hF' hb hd
  obtain⟨v14_0,e14,h14_1⟩:=sH hd 0 14 rfl rfl rfl rfl
  exact dv0 (r_assign e14) h14_1 rfl rfl
 ·intro a' w' hF' hb hd
  obtain⟨v20_0,e20,h20_1⟩:=sH hd 0 20 rfl rfl rfl rfl
  exact dv0 (r_assign e20) h20_1 rfl rfl
 intro a w4 hF bb hall hne
 replace st:=st.to bb
 obtain⟨vv5,e5,hh6⟩:=sS hall 12 5 rfl rfl
 replace st:=st.add hh6 (Dg.cl _)
 clear hh6
 obtain⟨vv7,e6,hh8⟩:=sS hall 13 6 rfl rfl
 replace st:=st.add hh8 (Dg.cl _)
 clear hh8
 clear hall hne bb
 obtain⟨ad9,n9,c9,rfl⟩:=Dg.form (st.f 1 rfl)
 replace hF:=hF.add e5
 clear e5
 obtain⟨ad10,n10,c10,rfl⟩:=Dg.form (st.f 0 rfl)
 replace hF:=hF.add e6
 clear e6
 refine E.nil ?_
 refine wp_seq ?_
 refine E.drawn 12 mixed hF [21,22,23,24,25,26,27,28,29,30,31,7] [(fun _ v=>v= .pointer (some ⟨g2,0,none⟩)),(fun _ v=>v= .pointer (some ⟨g2,1,none⟩)),(fun _ v=>v= .slice ad1 n1 c1),(fun _ v=>v= .slice ad9 n9 c9),(fun w v=>Dg w .u32 B32 v ((Int.natAbs (Rat.num (q1)))/(Nat.gcd (Int.natAbs (Rat.num (q1))) (Rat.den (q2))))),(fun _ v=>v= .pointer (some ⟨g3,0,none⟩)),(fun _ v=>v= .pointer (some ⟨g3,1,none⟩)),(fun _ v=>v= .slice ad2 n2 c2),(fun _ v=>v= .slice ad10 n10 c10),(fun w v=>Dg w .u32 B32 v ((Int.natAbs (Rat.num (q2)))/(Nat.gcd (Int.natAbs (Rat.num (q2))) (Rat.den (q1))))),(fun w v=>Dg w .u32 B32 v (((Int.natAbs (Rat.num (q1)))/(Nat.gcd (Int.natAbs (Rat.num (q1))) (Rat.den (q2))))*((Int.natAbs (Rat.num (q2)))/(Nat.gcd (Int.natAbs (Rat.num (q2))) (Rat.den (q1)))))),(fun w v=>Dg w .u32 B32 v (((Int.natAbs (Rat.num (q1)))/(Nat.gcd (Int.natAbs (Rat.num (q1))) (Rat.den (q2))))*((Int.natAbs (Rat.num (q2)))/(Nat.gcd (Int.natAbs (Rat.num (q2))) (Rat.den (q1))))))] [] (by decide+kernel) (by decide+kernel) rfl rfl rfl ⟨(Mb.eq _),(Mb.eq _),(Mb.eq _),(Mb.eq _),(fun _ _ _ h hb=>h.below hb),(Mb.eq _),(Mb.eq _),(Mb.eq _),(Mb.eq _),(fun _ _ _ h hb=>h.below hb),(fun _ _ _ h hb=>h.below hb),(fun _ _ _ h hb=>h.below hb),trivial⟩ trivial ⟨?_,?_,?_,?_,?_,?_,?_,?_,?_,?_,?_,?_,trivial⟩ ?_
 ·intro a' w' hF' hb hd
  exact dv0 (r_field (hF'.at 4 rfl) (fa_Rat_0 (p:=0) rfl)) rfl rfl rfl
 ·intro a' w' hF' hb hd
  have e21:=sHe hd 0 21 rfl rfl rfl rfl
  exact dv0 (r_field e21 (fa_Int_1 (p:=1) rfl)) rfl rfl rfl
 ·intro a' w' hF' hb hd
  have e22:=sHe hd 0 22 rfl rfl rfl rfl
  exact dv0 (r_load e22 (ld_Nat (v:= .slice ad1 n1 c1) ((st.b 2 rfl rfl).below hb) rfl)) rfl rfl rfl
 ·intro a' w' hF' hb hd
  exact dv0 (r_move (hF'.at 1 rfl)) rfl rfl rfl
 ·intro a' w' hF' hb hd
  have e23:=sHe hd 0 23 rfl rfl rfl rfl
  have e24:=sHe hd 1 24 rfl rfl rfl rfl
  exact dc0 (r_call Tryz.func118 en118.1 en118.2 (map2 e23 e24)) (rby_any _ _ (Int.natAbs (Rat.num (q1))) (Nat.gcd (Int.natAbs (Rat.num (q1))) (Rat.den (q2))) _ (Dg.nt (ha1.below (below_to st.bel hb))) (Dg.nt ((st.f 1 rfl).below hb))) rfl rfl
 ·intro a' w' hF' hb hd
  exact dv0 (r_field (hF'.at 3 rfl) (fa_Rat_0 (p:=0) rfl)) rfl rfl rfl
 ·intro a' w' hF' hb hd
  have e26:=sHe hd 0 26 rfl rfl rfl rfl
  exact dv0 (r_field e26 (fa_Int_1 (p:=1) rfl)) rfl rfl rfl
 ·intro a' w' hF' hb hd
  have e27:=sHe hd 0 27 rfl rfl rfl rfl
  exact dv0 (r_load e27 (ld_Nat (v:= .slice ad2 n2 c2) ((st.b 1 rfl rfl).below hb) rfl)) rfl rfl rfl
 ·intro a' w' hF' hb hd
  exact dv0 (r_move (hF'.at 0 rfl)) rfl rfl rfl
 ·intro a' w' hF' hb hd
  have e28:=sHe hd 0 28 rfl rfl rfl rfl
  have e29:=sHe hd 1 29 rfl rfl rfl rfl
  exact dc0 (r_call Tryz.func118 en118.1 en118.2 (map2 e28 e29)) (rby_any _ _ (Int.natAbs (Rat.num (q2))) (Nat.gcd (Int.natAbs (Rat.num (q2))) (Rat.den (q1))) _ (Dg.nt (ha2.below (below_to st.bel hb))) (Dg.nt ((st.f 0 rfl).below hb))) rfl rfl
 ·intro a' w' hF' hb hd
  obtain⟨v25_0,e25,h25_1⟩:=sH hd 0 25 rfl rfl rfl rfl
  obtain⟨v30_0,e30,h30_1⟩:=sH hd 1 30 rfl rfl rfl rfl
  exact dc0 (r_call Tryz.func120 en120.1 en120.2 (map2 e25 e30)) (mul_any _ _ ((Int.natAbs (Rat.num (q1)))/(Nat.gcd (Int.natAbs (Rat.num (q1))) (Rat.den (q2)))) ((Int.natAbs (Rat.num (q2)))/(Nat.gcd (Int.natAbs (Rat.num (q2))) (Rat.den (q1)))) _ (Dg.nt h25_1) (Dg.nt h30_1) (Lim.dl (div_lim (l1.1)) _ (by omega)) (Lim.dl (div_lim (l2.1)) _ (by omega))) rfl rfl
 ·intro a' w' hF' hb hd
  obtain⟨v31_0,e31,h31_1⟩:=sH hd 0 31 rfl rfl rfl rfl
  exact dv0 (r_assign e31) h31_1 rfl rfl
 intro a w11 hF bb hall hne
 replace st:=st.to bb
 obtain⟨vv12,e7,hh13⟩:=sS hall 11 7 rfl rfl
 replace st:=st.add hh13 (Dg.cl _)
 clear hh13
 clear hall hne bb
 obtain⟨ad14,n14,c14,rfl⟩:=Dg.form (st.f 0 rfl)
 replace hF:=hF.add e7
 clear e7
 refine E.nil ?_
 refine wp_seq ?_
 refine E.drawn 10 mixed hF [32,33,34,35,36,37,38,39,40,8] [(fun _ v=>v= .agg #[.bool b1,.slice ad1 n1 c1,.slice ae1 m1 d1]),(fun w v=>Dg w .u32 B32 v (Rat.den (q1))),(fun _ v=>v= .slice ad10 n10 c10),(fun w v=>Dg w .u32 B32 v ((Rat.den (q1))/(Nat.gcd (Int.natAbs (Rat.num (q2))) (Rat.den (q1))))),(fun _ v=>v= .agg #[.bool b2,.slice ad2 n2 c2,.slice ae2 m2 d2]),(fun w v=>Dg w .u32 B32 v (Rat.den (q2))),(fun _ v=>v= .slice ad9 n9 c9),(fun w v=>Dg w .u32 B32 v ((Rat.den (q2))/(Nat.gcd (Int.natAbs (Rat.num (q1))) (Rat.den (q2))))),(fun w v=>Dg w .u32 B32 v (((Rat.den (q1))/(Nat.gcd (Int.natAbs (Rat.num (q2))) (Rat.den (q1))))*((Rat.den (q2))/(Nat.gcd (Int.natAbs (Rat.num (q1))) (Rat.den (q2)))))),(fun w v=>Dg w .u32 B32 v (((Rat.den (q1))/(Nat.gcd (Int.natAbs (Rat.num (q2))) (Rat.den (q1))))*((Rat.den (q2))/(Nat.gcd (Int.natAbs (Rat.num (q1))) (Rat.den (q2))))))] [] (by decide+kernel) (by decide+kernel) rfl rfl rfl ⟨(Mb.eq _),(fun _ _ _ h hb=>h.below hb),(Mb.eq _),(fun _ _ _ h hb=>h.below hb),(Mb.eq _),(fun _ _ _ h hb=>h.below hb),(Mb.eq _),(fun _ _ _ h hb=>h.below hb),(fun _ _ _ h hb=>h.below hb),(fun _ _ _ h hb=>h.below hb),trivial⟩ trivial ⟨?_,?_,?_,?_,?_,?_,?_,?_,?_,?_,trivial⟩ ?_
 ·intro a' w' hF' hb hd
  exact dv0 (r_load (hF'.at 5 rfl) (ld_all ty_Rat ((st.bk 2 rfl).below hb) rfl)) rfl rfl rfl
 ·intro a' w' hF' hb hd
  have e32:=sHe hd 0 32 rfl rfl rfl rfl
  exact dc0 (r_call Tryz.func94 en94.1 en94.2 (map1 e32)) (rbelow_any _ (q1) _ (h1.below (below_to st.bel hb))) rfl rfl
 ·intro a' w' hF' hb hd
  exact dv0 (r_move (hF'.at 1 rfl)) rfl rfl rfl
 ·intro a' w' hF' hb hd
  obtain⟨v33_0,e33,h33_1⟩:=sH hd 0 33 rfl rfl rfl rfl
  have e34:=sHe hd 1 34 rfl rfl rfl rfl
  exact dc0 (r_call Tryz.func118 en118.1 en118.2 (map2 e33 e34)) (rby_any _ _ (Rat.den (q1)) (Nat.gcd (Int.natAbs (Rat.num (q2))) (Rat.den (q1))) _ (Dg.nt h33_1) (Dg.nt ((st.f 1 rfl).below hb))) rfl rfl
 ·intro a' w' hF' hb hd
  exact dv0 (r_load (hF'.at 4 rfl) (ld_all ty_Rat ((st.bk 1 rfl).below hb) rfl)) rfl rfl rfl
 ·intro a' w' hF' hb hd
  have e36:=sHe hd 0 36 rfl rfl rfl rfl
  exact dc0 (r_call Tryz.func94 en94.1 en94.2 (map1 e36)) (rbelow_any _ (q2) _ (h2.below (below_to st.bel hb))) rfl rfl
 ·intro a' w' hF' hb hd
  exact dv0 (r_move (hF'.at 2 rfl)) rfl rfl rfl
 ·intro a' w' hF' hb hd
  obtain⟨v37_0,e37,h37_1⟩:=sH hd 0 37 rfl rfl rfl rfl
  have e38:=sHe hd 1 38 rfl rfl rfl rfl
  exact dc0 (r_call Tryz.func118 en118.1 en118.2 (map2 e37 e38)) (rby_any _ _ (Rat.den (q2)) (Nat.gcd (Int.natAbs (Rat.num (q1))) (Rat.den (q2))) _ (Dg.nt h37_1) (Dg.nt ((st.f 2 rfl).below hb))) rfl rfl
 ·intro a' w' hF' hb hd
  obtain⟨v35_0,e35,h35_1⟩:=sH hd 0 35 rfl rfl rfl rfl
  obtain⟨v39_0,e39,h39_1⟩:=sH hd 1 39 rfl rfl rfl rfl
  exact dc0 (r_call Tryz.func120 en120.1 en120.2 (map2 e35 e39)) (mul_any _ _ ((Rat.den (q1))/(Nat.gcd (Int.natAbs (Rat.num (q2))) (Rat.den (q1)))) ((Rat.den (q2))/(Nat.gcd (Int.natAbs (Rat.num (q1))) (Rat.den (q2)))) _ (Dg.nt h35_1) (Dg.nt h39_1) (Lim.dl (div_lim (l1.2)) _ (by omega)) (Lim.dl (div_lim (l2.2)) _ (by omega))) rfl rfl
 ·intro a' w' hF' hb hd
  obtain⟨v40_0,e40,h40_1⟩:=sH hd 0 40 rfl rfl rfl rfl
  exact dv0 (r_assign e40) h40_1 rfl rfl
 intro a w15 hF bb hall hne
 replace st:=st.to bb
 obtain⟨vv16,e8,hh17⟩:=sS hall 9 8 rfl rfl
 replace st:=st.add hh17 (Dg.cl _)
 clear hh17
 clear hall hne bb
 obtain⟨ad18,n18,c18,rfl⟩:=Dg.form (st.f 0 rfl)
 replace hF:=hF.add e8
 clear e8
 refine E.nil ?_
 refine wp_seq ?_
 refine E.seq ?_
 refine E.opv hF (r_field (hF.at 6 rfl) (fa_Rat_0 (p:=0) rfl)) rfl rfl rfl rfl fun a hF=>?_
 refine E.opv hF (r_field (hF.at 0 rfl) (fa_Int_0 (p:=0) rfl)) rfl rfl rfl rfl fun a hF=>?_
 refine E.opv hF (r_load (hF.at 0 rfl) (ld_bool (v:= .bool b1) (st.b 2 rfl rfl) rfl)) rfl rfl rfl rfl fun a hF=>?_
 refine E.opv hF (r_field (hF.at 8 rfl) (fa_Rat_0 (p:=0) rfl)) rfl rfl rfl rfl fun a hF=>?_
 refine E.opv hF (r_field (hF.at 0 rfl) (fa_Int_0 (p:=0) rfl)) rfl rfl rfl rfl fun a hF=>?_
 refine E.opv hF (r_load (hF.at 0 rfl) (ld_bool (v:= .bool b2) (st.b 1 rfl rfl) rfl)) rfl rfl rfl rfl fun a hF=>?_
 refine E.opv hF (r_bin (hF.at 3 rfl) (hF.at 0 rfl) eg_bool (bb_neq (d:=(b1 !=b2)) rfl)) rfl rfl rfl rfl fun a hF=>?_
 refine E.opv hF (r_move (hF.at 8 rfl)) rfl rfl rfl rfl fun a hF=>?_
 refine E.opv hF (r_build (pair2 (hF.at 1 rfl) (hF.at 0 rfl)) (bd_Int_01 _ _ _ _ _)) rfl rfl rfl rfl fun a hF=>?_
 refine E.opv hF (r_move (hF.at 9 rfl)) rfl rfl rfl rfl fun a hF=>?_
 refine S.call st hF (r_call Tryz.func106 en106.1 en106.2 (map2 (hF.at 1 rfl) (hF.at 0 rfl))) (ratio_any _ _ _ (((Int.natAbs (Rat.num (q1)))/(Nat.gcd (Int.natAbs (Rat.num (q1))) (Rat.den (q2))))*((Int.natAbs (Rat.num (q2)))/(Nat.gcd (Int.natAbs (Rat.num (q2))) (Rat.den (q1))))) (((Rat.den (q1))/(Nat.gcd (Int.natAbs (Rat.num (q2))) (Rat.den (q1))))*((Rat.den (q2))/(Nat.gcd (Int.natAbs (Rat.num (q1))) (Rat.den (q2))))) (q1*q2) _ (st.f 1 rfl) (st.f 0 rfl) HP.out.1 (fun _=>HP.out.2)) (fun _ _ h=>h) Rq.cl rfl rfl rfl rfl fun vv20 w19 a st hF=>?_
 obtain⟨b22,ad22,n22,c22,ae22,m22,d22,rfl⟩:=Rq.form (st.f 0 rfl)
 refine S.sto st hF 0 rfl (hF.at 15 rfl) (hF.at 0 rfl) ty_Rat rfl rfl rfl rfl fun w23 a st hF=>?_
 refine E.nil ?_
 refine wp_ret ?_
 refine S.ret Tryz.results58 st hF (hF.at 15 rfl) 0 rfl ty_Rat rfl hF.dfr ?_
 have bel:=st.bel
 have hh21:=(st.f 0 rfl)
 exact⟨_,rfl,hh21,bel⟩
theorem rSub_any (v1 v2:Value) (q1 q2:Rat) (k:Nat) (w:World) (h1:Rq w v1 q1) (h2:Rq w v2 q2) (l1:RLim q1 k) (l2:RLim q2 k) (hk:k≤100000):
 Calls Tryz.prog 57 #[v1,v2] w (RqPost w (q1-q2)):=by
 obtain⟨b1,ad1,n1,c1,ae1,m1,d1,rfl⟩:=h1.form
 obtain⟨b2,ad2,n2,c2,ae2,m2,d2,rfl⟩:=h2.form
 have st:=St.start w
 refine E.enter (nt:=9) (L:=[(0,.agg #[.bool b1,.slice ad1 n1 c1,.slice ae1 m1 d1]),(1,.agg #[.bool b2,.slice ad2 n2 c2,.slice ae2 m2 d2])]) Tryz.func57 rfl rfl rfl (args_cons (i:=0) rfl (args_cons (i:=1) rfl args_nil)) ?_
 intro a hF
 refine wp_seq ?_
 refine E.seq ?_
 refine S.box st hF (hF.at 0 rfl) rfl rfl fun g2 w1 a st hF=>?_
 refine S.box st hF (hF.at 2 rfl) rfl rfl fun g3 w2 a st hF=>?_
 refine S.alloc st hF ty_Rat rfl rfl fun g4 w3 a st hF=>?_
 refine E.nil ?_
 refine wp_seq ?_
 refine E.drawn 4 mixed hF [5,6,7,8] [(fun _ v=>v= .agg #[.bool b1,.slice ad1 n1 c1,.slice ae1 m1 d1]),(fun _ v=>v= .agg #[.bool b2,.slice ad2 n2 c2,.slice ae2 m2 d2]),(fun w v=>Rq w v (-(q2))),(fun w v=>Rq w v ((q1)+(-(q2))))] [] (by decide+kernel) (by decide+kernel) rfl rfl rfl ⟨(Mb.eq _),(Mb.eq _),(fun _ _ _ h hb=>h.below hb),(fun _ _ _ h hb=>h.below hb),trivial⟩ trivial ⟨?_,?_,?_,?_,trivial⟩ ?_
 ·intro a' w' hF' hb hd
  exact dv0 (r_load (hF'.at 2 rfl) (ld_all ty_Rat ((st.bk 2 rfl).below hb) rfl)) rfl rfl rfl
 ·intro a' w' hF' hb hd
  exact dv0 (r_load (hF'.at 1 rfl) (ld_all ty_Rat ((st.bk 1 rfl).below hb) rfl)) rfl rfl rfl
 ·intro a' w' hF' hb hd
  have e6:=sHe hd 0 6 rfl rfl rfl rfl
  exact dc0 (r_call Tryz.func121 en121.1 en121.2 (map1 e6)) (rOpp_any _ (q2) _ (h2.below (below_to st.bel hb))) rfl rfl
 ·intro a' w' hF' hb hd
  have e5:=sHe hd 0 5 rfl rfl rfl rfl
  obtain⟨v7_0,e7,h7_1⟩:=sH hd 1 7 rfl rfl rfl rfl
  exact dc0 (r_call Tryz.func56 en56.1 en56.2 (map2 e5 e7)) (rAdd_any _ _ (q1) (-(q2)) k _ (h1.below (below_to st.bel hb)) h7_1 (l1.up _ (by omega)) ((rlim_neg l2).up _ (by omega)) (by omega)) rfl rfl
 intro a w4 hF bb hall hne
 replace st:=st.to bb
 obtain⟨vv5,e8,hh6⟩:=sS hall 3 8 rfl rfl
 replace st:=st.add hh6 (Rq.cl _)
 clear hh6
 clear hall hne bb
 obtain⟨b7,ad7,n7,c7,ae7,m7,d7,rfl⟩:=Rq.form (st.f 0 rfl)
 replace hF:=hF.add e8
 clear e8
 refine S.sto st hF 0 rfl (hF.at 1 rfl) (hF.at 0 rfl) ty_Rat rfl rfl rfl rfl fun w8 a st hF=>?_
 refine E.nil ?_
 refine wp_ret ?_
 refine S.ret Tryz.results57 st hF (hF.at 1 rfl) 0 rfl ty_Rat rfl hF.dfr ?_
 have bel:=st.bel
 have hh6:=(st.f 0 rfl)
 exact⟨_,rfl,by rw[Rat.sub_eq_add_neg];exact hh6,bel⟩
theorem rDiv_any (v1 v2:Value) (q1 q2:Rat) (k:Nat) (w:World) (h1:Rq w v1 q1) (h2:Rq w v2 q2) (l1:RLim q1 k) (l2:RLim q2 k) (hk:k≤100000):
 Calls Tryz.prog 75 #[v1,v2] w (RqPost w (q1/q2)):=by
 obtain⟨b1,ad1,n1,c1,ae1,m1,d1,rfl,hn1,hd1⟩:=h1.shape
 have h1:Rq w (.agg #[.bool b1,.slice ad1 n1 c1,.slice ae1 m1 d1]) q1:=⟨_,_,_,_,_,_,_,rfl,hn1,hd1⟩
 have ha1:=hn1.abs
 have hb1:=hn1.neg
 obtain⟨b2,ad2,n2,c2,ae2,m2,d2,rfl,hn2,hd2⟩:=h2.shape
 have h2:Rq w (.agg #[.bool b2,.slice ad2 n2 c2,.slice ae2 m2 d2]) q2:=⟨_,_,_,_,_,_,_,rfl,hn2,hd2⟩
 have ha2:=hn2.abs
 have hb2:=hn2.neg
 by_cases h0:q2=0
 ·have hq:q1/q2=0:=by rw[h0,Rat.div_def,Rat.inv_zero,Rat.mul_zero]
  have hn0:=Rat.num_eq_zero.2 h0
  clear h0
  have st:=St.start w
  refine E.enter (nt:=21) (L:=[(0,.agg #[.bool b1,.slice ad1 n1 c1,.slice ae1 m1 d1]),(1,.agg #[.bool b2,.slice ad2 n2 c2,.slice ae2 m2 d2])]) Tryz.func75 rfl rfl rfl (args_cons (i:=0) rfl (args_cons (i:=1) rfl args_nil)) ?_
  intro a hF
  refine wp_seq ?_
  refine E.seq ?_
  refine S.box st hF (hF.at 0 rfl) rfl rfl fun g2 w1 a st hF=>?_
  refine S.box st hF (hF.at 2 rfl) rfl rfl fun g3 w2 a st hF=>?_
  refine S.alloc st hF ty_Rat rfl rfl fun g4 w3 a st hF=>?_
  refine E.nil ?_
  refine wp_seq ?_
  refine wp_seq ?_
  refine E.seq ?_
  refine E.opv hF (r_load (hF.at 1 rfl) (ld_all ty_Rat (st.bk 1 rfl) rfl)) rfl rfl rfl rfl fun a hF=>?_
  refine S.callx st hF (r_call Tryz.func141 en141.1 en141.2 (map1 (hF.at 0 rfl))) (rsgn_any _ (q2) _ (h2.below st.bel)) rfl rfl rfl rfl fun w4 a st hF=>?_
  refine E.opv hF (r_bin (hF.at 0 rfl) ev_c eg_scalar (bi_int (ic_eql (c:=true) (eq0 (sz_eq0.2 hn0))) (by simp))) rfl rfl rfl rfl fun a hF=>?_
  refine E.nil ?_
  refine wp_cond_true (hF.at 0 rfl) ?_
  refine wp_seq ?_
  refine E.seq ?_
  refine E.opv hF (r_build (by simp) (bd_Rat_ _)) rfl rfl rfl rfl fun a hF=>?_
  refine S.sto st hF 0 rfl (hF.at 4 rfl) (hF.at 0 rfl) ty_Rat rfl rfl rfl rfl fun w5 a st hF=>?_
  refine E.nil ?_
  refine wp_ret ?_
  refine S.ret Tryz.results75 st hF (hF.at 4 rfl) 0 rfl ty_Rat rfl hF.dfr ?_
  have bel:=st.bel
  exact⟨_,rfl,Rz0 hq _,bel⟩
 ·have hn0:=ne_num h0
  have HV1:dn q2≠0:=by rw[dn_of h0];exact q2.den_nz
  have HV2:sg b2 (dn q2)=(q2⁻¹).num :=by rw[hb2,dn_of h0];exact(inv_parts h0).1
  have HV3:=(inv_parts h0).2
  have st:=St.start w
  refine E.enter (nt:=21) (L:=[(0,.agg #[.bool b1,.slice ad1 n1 c1,.slice ae1 m1 d1]),(1,.agg #[.bool b2,.slice ad2 n2 c2,.slice ae2 m2 d2])]) Tryz.func75 rfl rfl rfl (args_cons (i:=0) rfl (args_cons (i:=1) rfl args_nil)) ?_
  intro a hF
  refine wp_seq ?_
  refine E.seq ?_
  refine S.box st hF (hF.at 0 rfl) rfl rfl fun g2 w1 a st hF=>?_
  refine S.box st hF (hF.at 2 rfl) rfl rfl fun g3 w2 a st hF=>?_
  refine S.alloc st hF ty_Rat rfl rfl fun g4 w3 a st hF=>?_
  refine E.nil ?_
  refine wp_seq ?_
  refine wp_seq ?_
  refine E.seq ?_
  refine E.opv hF (r_load (hF.at 1 rfl) (ld_all ty_Rat (st.bk 1 rfl) rfl)) rfl rfl rfl rfl fun a hF=>?_
  refine S.callx st hF (r_call Tryz.func141 en141.1 en141.2 (map1 (hF.at 0 rfl))) (rsgn_any _ (q2) _ (h2.below st.bel)) rfl rfl rfl rfl fun w4 a st hF=>?_
  refine E.opv hF (r_bin (hF.at 0 rfl) ev_c eg_scalar (bi_int (ic_eql (c:=false) (eq0f (fun e=>hn0 (sz_eq0.1 e)))) (by simp))) rfl rfl rfl rfl fun a hF=>?_
  refine E.nil ?_
  refine wp_cond_false (hF.at 0 rfl) ?_
  refine wp_skip ?_
  refine E.norm ?_
  refine wp_seq ?_
  refine E.seq ?_
  refine E.opv hF (r_load (hF.at 5 rfl) (ld_all ty_Rat (st.bk 2 rfl) rfl)) rfl rfl rfl rfl fun a hF=>?_
  refine E.opv hF (r_field (hF.at 5 rfl) (fa_Rat_0 (p:=0) rfl)) rfl rfl rfl rfl fun a hF=>?_
  refine E.opv hF (r_field (hF.at 0 rfl) (fa_Int_0 (p:=0) rfl)) rfl rfl rfl rfl fun a hF=>?_
  refine E.opv hF (r_load (hF.at 0 rfl) (ld_bool (v:= .bool b2) (st.b 1 rfl rfl) rfl)) rfl rfl rfl rfl fun a hF=>?_
  refine E.opv hF (r_field (hF.at 8 rfl) (fa_Rat_1 (p:=2) rfl)) rfl rfl rfl rfl fun a hF=>?_
  refine E.opv hF (r_load (hF.at 0 rfl) (ld_Nat (v:= .slice ae2 m2 d2) (st.b 1 rfl rfl) rfl)) rfl rfl rfl rfl fun a hF=>?_
  refine E.opv hF (r_build (pair2 (hF.at 2 rfl) (hF.at 0 rfl)) (bd_Int_01 _ _ _ _ _)) rfl rfl rfl rfl fun a hF=>?_
  refine E.opv hF (r_field (hF.at 11 rfl) (fa_Rat_0 (p:=0) rfl)) rfl rfl rfl rfl fun a hF=>?_
  refine E.opv hF (r_field (hF.at 0 rfl) (fa_Int_1 (p:=1) rfl)) rfl rfl rfl rfl fun a hF=>?_
  refine E.opv hF (r_load (hF.at 0 rfl) (ld_Nat (v:= .slice ad2 n2 c2) (st.b 1 rfl rfl) rfl)) rfl rfl rfl rfl fun a hF=>?_
  refine E.opv hF (r_build (pair2 (hF.at 3 rfl) (hF.at 0 rfl)) (bd_Rat_01 _ _ _ _ _ _ _ _)) rfl rfl rfl rfl fun a hF=>?_
  refine S.call st hF (r_call Tryz.func58 en58.1 en58.2 (map2 (hF.at 10 rfl) (hF.at 0 rfl))) (rMul_any _ _ (q1) (q2⁻¹) k _ (h1.below st.bel) (Rq.mk (hd2.below st.bel) (ha2.below st.bel) HV1 HV2 HV3) (l1.up _ (by omega)) ((rlim_inv l2).up _ (by omega)) (by omega)) (fun _ _ h=>h) Rq.cl rfl rfl rfl rfl fun vv6 w5 a st hF=>?_
  obtain⟨b8,ad8,n8,c8,ae8,m8,d8,rfl⟩:=Rq.form (st.f 0 rfl)
  refine S.sto st hF 0 rfl (hF.at 15 rfl) (hF.at 0 rfl) ty_Rat rfl rfl rfl rfl fun w9 a st hF=>?_
  refine E.nil ?_
  refine wp_ret ?_
  refine S.ret Tryz.results75 st hF (hF.at 15 rfl) 0 rfl ty_Rat rfl hF.dfr ?_
  have bel:=st.bel
  have hh7:=(st.f 0 rfl)
  exact⟨_,rfl,by rw[Rat.div_def];exact hh7,bel⟩
theorem rCmp_any (v1 v2:Value) (q1 q2:Rat) (k:Nat) (w:World) (h1:Rq w v1 q1) (h2:Rq w v2 q2) (l1:RLim q1 k) (l2:RLim q2 k) (hk:k≤100000):
 Calls Tryz.prog 30 #[v1,v2] w (IntPost w (qc q1 q2)):=by
 obtain⟨b1,ad1,n1,c1,ae1,m1,d1,rfl,hn1,hd1⟩:=h1.shape
 have h1:Rq w (.agg #[.bool b1,.slice ad1 n1 c1,.slice ae1 m1 d1]) q1:=⟨_,_,_,_,_,_,_,rfl,hn1,hd1⟩
 have ha1:=hn1.abs
 have hb1:=hn1.neg
 obtain⟨b2,ad2,n2,c2,ae2,m2,d2,rfl,hn2,hd2⟩:=h2.shape
 have h2:Rq w (.agg #[.bool b2,.slice ad2 n2 c2,.slice ae2 m2 d2]) q2:=⟨_,_,_,_,_,_,_,rfl,hn2,hd2⟩
 have ha2:=hn2.abs
 have hb2:=hn2.neg
 have st:=St.start w
 refine E.enter (nt:=16) (L:=[(0,.agg #[.bool b1,.slice ad1 n1 c1,.slice ae1 m1 d1]),(1,.agg #[.bool b2,.slice ad2 n2 c2,.slice ae2 m2 d2])]) Tryz.func30 rfl rfl rfl (args_cons (i:=0) rfl (args_cons (i:=1) rfl args_nil)) ?_
 intro a hF
 refine wp_seq ?_
 refine E.seq ?_
 refine S.box st hF (hF.at 0 rfl) rfl rfl fun g2 w1 a st hF=>?_
 refine S.box st hF (hF.at 2 rfl) rfl rfl fun g3 w2 a st hF=>?_
 refine E.opv hF (r_assign ev_c) rfl rfl rfl rfl fun a hF=>?_
 refine E.nil ?_
 refine wp_seq ?_
 refine E.drawn 11 mixed hF [5,6,7,8,9,10,11,12,13,14,15] [(fun _ v=>v= .pointer (some ⟨g2,0,none⟩)),(fun _ v=>v= .agg #[.bool b1,.slice ad1 n1 c1]),(fun _ v=>v= .agg #[.bool b2,.slice ad2 n2 c2,.slice ae2 m2 d2]),(fun w v=>Dg w .u32 B32 v (Rat.den (q2))),(fun w v=>Wc w v ((Rat.num (q1))*((Rat.den (q2):Nat):Int))),(fun _ v=>v= .pointer (some ⟨g3,0,none⟩)),(fun _ v=>v= .agg #[.bool b2,.slice ad2 n2 c2]),(fun _ v=>v= .agg #[.bool b1,.slice ad1 n1 c1,.slice ae1 m1 d1]),(fun w v=>Dg w .u32 B32 v (Rat.den (q1))),(fun w v=>Wc w v ((Rat.num (q2))*((Rat.den (q1):Nat):Int))),(fun _ v=>v= .int .i64 (ci ((Rat.num (q1))*((Rat.den (q2):Nat):Int)) ((Rat.num (q2))*((Rat.den (q1):Nat):Int))))] [] (by decide+kernel) (by decide+kernel) rfl rfl rfl ⟨(Mb.eq _),(Mb.eq _),(Mb.eq _),(fun _ _ _ h hb=>h.below hb),(fun _ _ _ h hb=>h.below hb),(Mb.eq _),(Mb.eq _),(Mb.eq _),(fun _ _ _ h hb=>h.below hb),(fun _ _ _ h hb=>h.below hb),(Mb.eq _),trivial⟩ trivial ⟨?_,?_,?_,?_,?_,?_,?_,?_,?_,?_,?_,trivial⟩ ?_
 ·intro a' w' hF' hb hd
  exact dv0 (r_field (hF'.at 2 rfl) (fa_Rat_0 (p:=0) rfl)) rfl rfl rfl
 ·intro a' w' hF' hb hd
  have e5:=sHe hd 0 5 rfl rfl rfl rfl
  exact dv0 (r_load e5 (ld_Int (vs:=[.bool b1,.slice ad1 n1 c1]) ((st.b 1 rfl rfl).below hb) rfl rfl)) rfl rfl rfl
 ·intro a' w' hF' hb hd
  exact dv0 (r_load (hF'.at 1 rfl) (ld_all ty_Rat ((st.bk 0 rfl).below hb) rfl)) rfl rfl rfl
 ·intro a' w' hF' hb hd
  have e7:=sHe hd 0 7 rfl rfl rfl rfl
  exact dc0 (r_call Tryz.func94 en94.1 en94.2 (map1 e7)) (rbelow_any _ (q2) _ (h2.below (below_to st.bel hb))) rfl rfl
 ·intro a' w' hF' hb hd
  have e6:=sHe hd 0 6 rfl rfl rfl rfl
  obtain⟨v8_0,e8,h8_1⟩:=sH hd 1 8 rfl rfl rfl rfl
  exact dc0 (r_call Tryz.func93 en93.1 en93.2 (map2 e6 e8)) (rtimes_any _ _ (Rat.num (q1)) (Rat.den (q2)) k k _ (Wc.wz (hn1.below (below_to st.bel hb))) (Dg.nt h8_1) (l1.1) (l2.2) (by omega) (by omega)) rfl rfl
 ·intro a' w' hF' hb hd
  exact dv0 (r_field (hF'.at 1 rfl) (fa_Rat_0 (p:=0) rfl)) rfl rfl rfl
 ·intro a' w' hF' hb hd
  have e10:=sHe hd 0 10 rfl rfl rfl rfl
  exact dv0 (r_load e10 (ld_Int (vs:=[.bool b2,.slice ad2 n2 c2]) ((st.b 0 rfl rfl).below hb) rfl rfl)) rfl rfl rfl
 ·intro a' w' hF' hb hd
  exact dv0 (r_load (hF'.at 2 rfl) (ld_all ty_Rat ((st.bk 1 rfl).below hb) rfl)) rfl rfl rfl
 ·intro a' w' hF' hb hd
  have e12:=sHe hd 0 12 rfl rfl rfl rfl
  exact dc0 (r_call Tryz.func94 en94.1 en94.2 (map1 e12)) (rbelow_any _ (q1) _ (h1.below (below_to st.bel hb))) rfl rfl
 ·intro a' w' hF' hb hd
  have e11:=sHe hd 0 11 rfl rfl rfl rfl
  obtain⟨v13_0,e13,h13_1⟩:=sH hd 1 13 rfl rfl rfl rfl
  exact dc0 (r_call Tryz.func93 en93.1 en93.2 (map2 e11 e13)) (rtimes_any _ _ (Rat.num (q2)) (Rat.den (q1)) k k _ (Wc.wz (hn2.below (below_to st.bel hb))) (Dg.nt h13_1) (l2.1) (l1.2) (by omega) (by omega)) rfl rfl
 ·intro a' w' hF' hb hd
  obtain⟨v9_0,e9,h9_1⟩:=sH hd 0 9 rfl rfl rfl rfl
  obtain⟨v14_0,e14,h14_1⟩:=sH hd 1 14 rfl rfl rfl rfl
  exact dcx0 (r_call Tryz.func95 en95.1 en95.2 (map2 e9 e14)) (whCmp_any _ _ _ _ _ (Wc.wz h9_1) (Wc.wz h14_1)) (fun _=>rfl) rfl rfl
 intro a w3 hF bb hall hne
 replace st:=st.to bb
 have e15:=sSe hall 10 15 rfl rfl
 clear hall hne bb
 replace hF:=hF.add e15
 clear e15
 refine E.opset (L':=[(4,.int .i64 (ci ((Rat.num (q1))*((Rat.den (q2):Nat):Int)) ((Rat.num (q2))*((Rat.den (q1):Nat):Int)))),(15,.int .i64 (ci ((Rat.num (q1))*((Rat.den (q2):Nat):Int)) ((Rat.num (q2))*((Rat.den (q1):Nat):Int)))),(3,.pointer (some ⟨g3,0,none⟩)),(2,.pointer (some ⟨g2,0,none⟩)),(0,.agg #[.bool b1,.slice ad1 n1 c1,.slice ae1 m1 d1]),(1,.agg #[.bool b2,.slice ad2 n2 c2,.slice ae2 m2 d2])]) hF (r_assign (hF.at 0 rfl)) rfl rfl rfl rfl fun a hF=>?_
 refine E.nil ?_
 refine wp_ret ?_
 have bel:=st.bel
 refine bodyPost_ret (res_tmp Tryz.results30 (hF.at 0 rfl)) hF.dfr ?_
 exact⟨rfl,bel⟩
end
end
end Go.Proofs.YtnljadejcfgmaaaGreatDoor
