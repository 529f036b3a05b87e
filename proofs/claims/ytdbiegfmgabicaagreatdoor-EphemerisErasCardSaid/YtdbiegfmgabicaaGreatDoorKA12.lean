import Derived.Test.YtdbiegfmgabicaaGreatDoorKA7
import Derived.Test.YtdbiegfmgabicaaGreatDoorKA11
namespace Go.Proofs.YtdbiegfmgabicaaGreatDoor
open Go.RowKit
set_option maxRecDepth 100000
set_option linter.unusedVariables false
set_option maxHeartbeats 8000000
section
section
theorem Dg.len {w:World} {k:IntKind} {b:Nat} {ad:Option Addr} {m c N:Nat} (h:Dg w k b (.slice ad m c) N):m=dl b N:=by
 obtain⟨ad',cap,h1,_⟩:=h
 rw[az] at h1
 injection h1
theorem Dg.len0 {w:World} {k:IntKind} {b:Nat} {ad:Option Addr} {m c:Nat} (h:Dg w k b (.slice ad m c) 0):m=0:=by rw[h.len,fp]
theorem Dg.lenp {w:World} {k:IntKind} {b:Nat} (hb:2≤b) {ad:Option Addr} {m c N:Nat} (h:Dg w k b (.slice ad m c) N) (hN:0<N):0<m:=by rw[h.len];exact en hb hN
theorem Wc.cast {w:World} {v:Value} {z z':Int} (h:Wc w v z) (e:z=z'):Wc w v z':=by subst e;exact h
def dn (q:Rat):Nat:=if q=0 then 0 else q.den
theorem yq:dn 0=0:=if_pos rfl
theorem uy {q:Rat} (h:q≠0):dn q=q.den:=if_neg h
def Rq (w:World) (v:Value) (q:Rat):Prop:=
 ∃b ad n c ae m d,v= .agg #[.bool b,.slice ad n c,.slice ae m d]∧Wc w (.agg #[.bool b,.slice ad n c]) q.num∧Dg w .u32 B32 (.slice ae m d) (dn q)
def bl (w:World) (q:Rat) (e:Ending) (w':World):Prop:=∃v,e= .returned v∧Rq w' v q∧Below w.heap.size w w'
theorem Rq.shape {w:World} {v:Value} {q:Rat} (h:Rq w v q):∃b ad n c ae m d,v= .agg #[.bool b,.slice ad n c,.slice ae m d]∧Wc w (.agg #[.bool b,.slice ad n c]) q.num∧Dg w .u32 B32 (.slice ae m d) (dn q):=h
theorem Rq.form {w:World} {v:Value} {q:Rat} (h:Rq w v q):∃b ad n c ae m d,v= .agg #[.bool b,.slice ad n c,.slice ae m d]:=by
 obtain⟨b,ad,n,c,ae,m,d,h1,_⟩:=h
 exact⟨b,ad,n,c,ae,m,d,h1⟩
theorem Rq.below {w w':World} {v:Value} {q:Rat} (h:Rq w v q) (hb:Below w.heap.size w w'):Rq w' v q:=by
 obtain⟨b,ad,n,c,ae,m,d,h1,h2,h3⟩:=h
 exact⟨b,ad,n,c,ae,m,d,h1,h2.below hb,h3.below hb⟩
def Iq (q:Rat):World→Value→Prop:=fun w v=>Rq w v q
instance mbq {q:Rat}:MbI (Iq q):=⟨fun _ _ _ h hb=>Rq.below h hb⟩
theorem Rq.fo {w:World} {v:Value} {q:Rat} (h:Rq w v q):∃r:R7,v=r.v:=by
 obtain⟨b,x,n,c,y,m,d,e⟩:=h.form
 exact⟨⟨b,x,n,c,y,m,d⟩,e⟩
instance mbd {k:IntKind} {b n:Nat}:MbI (fun w v=>Dg w k b v n):=⟨fun _ _ _ h hb=>Dg.below h hb⟩
instance mbw {z:Int}:MbI (fun w v=>Wc w v z):=⟨fun _ _ _ h hb=>Wc.below h hb⟩
instance mbx {z:Int}:MbI (fun w v=>Wz w v z):=⟨fun _ _ _ h hb=>Wz.below h hb⟩
instance mbg {b:Bool} {n:Nat}:MbI (fun w v=>Wg w v b n):=⟨fun _ _ _ h hb=>Wg.below h hb⟩
theorem Rq.keep {w w':World} {v:Value} {q:Rat} (h:Rq w v q) (kp:eg w w'):Rq w' v q:=by
 obtain⟨b,ad,n,c,ae,m,d,h1,h2,h3⟩:=h
 exact⟨b,ad,n,c,ae,m,d,h1,h2.keep kp,h3.keep kp⟩
theorem L4 {q:Rat} (h:q.num≠0):q≠0:=fun e=>h (by rw[e];rfl)
theorem CX {q:Rat} (h:q≠0):q.num≠0:=fun e=>h (Rat.num_eq_zero.1 e)
theorem Rq.zero (w:World):Rq w (.agg #[.bool false,.slice none 0 0,.slice none 0 0]) 0:=
 ⟨false,none,0,0,none,0,0,rfl,Wc.zero w,by rw[yq];exact Dg.nil w⟩
theorem Rq.mk {w:World} {b:Bool} {ad ae:Option Addr} {n c m d N D:Nat} {q:Rat} (h1:Dg w .u32 B32 (.slice ad n c) N) (h2:Dg w .u32 B32 (.slice ae m d) D) (hN:N≠0) (hz:sg b N=q.num) (hd:D=q.den):
 Rq w (.agg #[.bool b,.slice ad n c,.slice ae m d]) q:=by
 have hp:0<N:=by omega
 have hne:q.num≠0:=by rw[←hz];intro e;have:=congrArg Int.natAbs e;rw[dJ] at this;simp at this;omega
 have hw:Wc w (.agg #[.bool b,.slice ad n c]) (sg b N):=by
  have:=Wc.sg (neg:=b) h1 hp
  exact this
 rw[hz] at hw
 exact⟨b,ad,n,c,ae,m,d,rfl,hw,by rw[uy (L4 hne),←hd];exact h2⟩
theorem BS {b:Bool} {N:Nat} (h:N=0):sz (sg b N)=0:=by subst h;rw[fq];rfl
theorem CV {b:Bool} {N:Nat} (h:N≠0):sz (sg b N)≠0:=by
 unfold sz sg
 cases b <;> simp <;> (repeat' split) <;> omega
theorem oI {z:Int}:sz z=0↔z=0:=by
 unfold sz;split <;> (try split) <;> simp_all
theorem oN {x:Int} (h:x≠0):decide (x=0)=false:=decide_eq_false h
def ah (q:Rat) (k:Nat):Prop:=Lim q.num.natAbs k∧Lim q.den k
theorem Lim.one {k:Nat} (hk:1≤k):Lim 1 k:=Nat.lt_of_lt_of_le (by decide:1<B32^1) (Nat.pow_le_pow_right aY hk)
theorem gJ {a b k:Nat} (h:Lim a k):Lim (a/b) k:=h.le (Nat.div_le_self a b)
theorem Br (b1 b2:Bool) (N M:Nat) (hM:M≠0):sg (b1 !=b2) (N/Nat.gcd N M)=((sg b1 N:Rat)/(sg b2 M:Rat)).num ∧(N/Nat.gcd N M≠0→M/Nat.gcd N M=((sg b1 N:Rat)/(sg b2 M:Rat)).den):=by
 have e:((sg b1 N:Rat)/(sg b2 M:Rat))=mkRat (sg (b1 !=b2) N) M:=by
  rw[←Rat.divInt_eq_div]
  cases b1 <;> cases b2 <;> simp[sg,Rat.divInt_neg',Rat.divInt_ofNat]
 rw[e,Rat.num_mkRat,Rat.den_mkRat,if_neg hM,if_neg hM,dJ,Nat.gcd_comm M N]
 refine⟨?_,fun _=>rfl⟩
 have hg:=Nat.gcd_dvd_left N M
 obtain⟨t,ht⟩:=hg
 generalize Nat.gcd N M=g at*
 subst ht
 by_cases hg0:g=0
 ·subst hg0;simp[sg]
 ·have hgp:0<g:=by omega
  rw[Nat.mul_div_cancel_left t hgp]
  unfold sg
  split
  ·have:(-(((g*t:Nat):Int)))=(g:Int)*(-(t:Int)):=by rw[Int.mul_neg];simp
   rw[this,Int.mul_ediv_cancel_left _ (by omega)]
  ·have:(((g*t:Nat):Int))=(g:Int)*(t:Int):=by simp
   rw[this,Int.mul_ediv_cancel_left _ (by omega)]
theorem kI (z:Int):sg (decide (z<0)) z.natAbs=z:=sA z
theorem yC (b:Bool) (N g:Nat):(sg b N).tdiv (g:Int)=sg b (N/g):=by
 unfold sg;cases b <;> simp
theorem Hy (b:Bool) {N g:Nat} (h:g ∣ N):sg b N/(g:Int)=sg b (N/g):=by
 obtain⟨t,rfl⟩:=h
 by_cases hg0:g=0
 ·subst hg0;simp[sg]
 ·have hgp:0<g:=by omega
  rw[Nat.mul_div_cancel_left t hgp]
  unfold sg
  split
  ·have:(-(((g*t:Nat):Int)))=(g:Int)*(-(t:Int)):=by rw[Int.mul_neg];simp
   rw[this,Int.mul_ediv_cancel_left _ (by omega)]
  ·have:(((g*t:Nat):Int))=(g:Int)*(t:Int):=by simp
   rw[this,Int.mul_ediv_cancel_left _ (by omega)]
theorem BJ (a b:Rat):
 sg (decide (a.num*((b.den/Nat.gcd a.den b.den:Nat):Int)+b.num*((a.den/Nat.gcd a.den b.den:Nat):Int)<0)) ((a.num*((b.den/Nat.gcd a.den b.den:Nat):Int)+b.num*((a.den/Nat.gcd a.den b.den:Nat):Int)).natAbs /Nat.gcd (a.num*((b.den/Nat.gcd a.den b.den:Nat):Int)+b.num*((a.den/Nat.gcd a.den b.den:Nat):Int)).natAbs (Nat.gcd a.den b.den))=(a+b).num ∧
 (a.den/Nat.gcd a.den b.den)*(b.den/Nat.gcd (a.num*((b.den/Nat.gcd a.den b.den:Nat):Int)+b.num*((a.den/Nat.gcd a.den b.den:Nat):Int)).natAbs (Nat.gcd a.den b.den))=(a+b).den :=by
 have haux:=Rat.add.aux a b (g:=Nat.gcd a.den b.den) (ad:=a.den/Nat.gcd a.den b.den) (bd:=b.den/Nat.gcd a.den b.den) rfl rfl rfl
 dsimp only at haux
 have hg:Nat.gcd a.den b.den≠0:=Nat.gcd_ne_zero_left a.den_nz
 have e1:a.den/Nat.gcd a.den b.den*Nat.gcd a.den b.den=a.den:=Nat.div_mul_cancel (Nat.gcd_dvd_left _ _)
 have e2:b.den/Nat.gcd a.den b.den*Nat.gcd a.den b.den=b.den:=Nat.div_mul_cancel (Nat.gcd_dvd_right _ _)
 have hd2:Nat.gcd a.den b.den ∣ b.den:=Nat.gcd_dvd_right _ _
 have hd0:a.den/Nat.gcd a.den b.den*b.den≠0:=Nat.mul_ne_zero (fun e=>a.den_nz (by rw[←e1,e,Nat.zero_mul])) b.den_nz
 have key:a+b=mkRat (a.num*((b.den/Nat.gcd a.den b.den:Nat):Int)+b.num*((a.den/Nat.gcd a.den b.den:Nat):Int)) (a.den/Nat.gcd a.den b.den*b.den):=by
  rw[Rat.add_def',←Rat.mkRat_mul_right hg (n:=a.num*((b.den/Nat.gcd a.den b.den:Nat):Int)+b.num*((a.den/Nat.gcd a.den b.den:Nat):Int))]
  congr 1
  ·rw[Int.add_mul,Int.mul_assoc,Int.mul_assoc,Int.ofNat_mul_ofNat,Int.ofNat_mul_ofNat,e1,e2]
  ·rw[Nat.mul_right_comm,e1]
 generalize a.num*((b.den/Nat.gcd a.den b.den:Nat):Int)+b.num*((a.den/Nat.gcd a.den b.den:Nat):Int)=S at*
 generalize Nat.gcd a.den b.den=g at*
 rw[key,Rat.num_mkRat,Rat.den_mkRat,if_neg hd0,if_neg hd0,Nat.gcd_comm _ S.natAbs,←haux]
 refine⟨?_,?_⟩
 ·have:=Hy (decide (S<0)) (Nat.gcd_dvd_left S.natAbs g)
  rw[kI] at this
  exact this.symm
 ·rw[Nat.mul_div_assoc _ (Nat.dvd_trans (Nat.gcd_dvd_right S.natAbs g) hd2)]
theorem AY (a b:Rat):
 sg (decide (a.num<0) !=decide (b.num<0)) (a.num.natAbs/Nat.gcd a.num.natAbs b.den*(b.num.natAbs/Nat.gcd b.num.natAbs a.den))=(a*b).num ∧
 a.den/Nat.gcd b.num.natAbs a.den*(b.den/Nat.gcd a.num.natAbs b.den)=(a*b).den :=by
 have e1:(a*b).num =a.num.tdiv (Nat.gcd a.num.natAbs b.den:Nat)*b.num.tdiv (Nat.gcd b.num.natAbs a.den:Nat):=by
  show(Rat.mul a b).num =_
  delta Rat.mul
  simp only [Int.divExact_eq_tdiv]
 have e2:(a*b).den =a.den/Nat.gcd b.num.natAbs a.den*(b.den/Nat.gcd a.num.natAbs b.den):=by
  show(Rat.mul a b).den =_
  delta Rat.mul
  simp only [Nat.divExact_eq_div]
 refine⟨?_,e2.symm⟩
 rw[e1]
 have h1:=yC (decide (a.num<0)) a.num.natAbs (Nat.gcd a.num.natAbs b.den)
 have h2:=yC (decide (b.num<0)) b.num.natAbs (Nat.gcd b.num.natAbs a.den)
 rw[kI] at h1 h2
 rw[h1,h2,←uJ]
 rfl
theorem oP {a:Rat} (h:a≠0):sg (decide (a.num<0)) a.den=(a⁻¹).num ∧a.num.natAbs=(a⁻¹).den :=by
 have hn:=CX h
 rw[Rat.num_inv,Rat.den_inv,if_neg hn]
 refine⟨?_,rfl⟩
 unfold sg
 by_cases hl:a.num<0
 ·rw[if_pos (by simpa using hl),Int.sign_eq_neg_one_of_neg hl];omega
 ·rw[if_neg (by simpa using hl),Int.sign_eq_one_of_pos (by omega)];omega
theorem mz {z:Int} {d k:Nat} (h1:Lim z.natAbs k) (h2:Lim d k) (hd:d≠0):ah (mkRat z d) k:=by
 refine⟨h1.le ?_,h2.le ?_⟩
 ·rw[Rat.num_mkRat,if_neg hd,Int.natAbs_ediv_of_dvd (by rw[Int.ofNat_dvd_left];exact Nat.gcd_dvd_right _ _)]
  exact Nat.div_le_self _ _
 ·rw[Rat.den_mkRat,if_neg hd];exact Nat.div_le_self _ _
theorem ah.up {q:Rat} {a:Nat} (h:ah q a) (b:Nat) (hl:a≤b):ah q b:=⟨h.1.up b hl,h.2.up b hl⟩
theorem ah.pos {q:Rat} {a:Nat} (h:ah q a):1≤a:=by
 by_cases e:a=0
 ·subst e
  have h2:=h.2
  unfold Lim at h2
  have:=q.den_pos
  rw[Nat.pow_zero] at h2
  omega
 ·omega
theorem bL {a b:Rat} {k l:Nat} (h1:ah a k) (h2:ah b l):ah (a+b) (k+l+1):=by
 rw[Rat.add_def']
 refine mz ?_ ((h1.2.mul h2.2).up _ (by omega)) (Nat.mul_ne_zero a.den_nz b.den_nz)
 refine gu (a:=k+l) (b:=k+l) ?_ ?_ _ (by omega) (by omega)
 ·rw[Int.natAbs_mul];exact h1.1.mul h2.2
 ·rw[Int.natAbs_mul];exact(h2.1.mul h1.2).up _ (by omega)
theorem fK {a:Rat} {k:Nat} (h:ah a k):ah (-a) k:=⟨by rw[Rat.neg_num,Int.natAbs_neg];exact h.1,h.2⟩
theorem cA {a b:Rat} {k l:Nat} (h1:ah a k) (h2:ah b l):ah (a-b) (k+l+1):=by
 rw[Rat.sub_eq_add_neg];exact bL h1 (fK h2)
theorem bf {a b:Rat} {k l:Nat} (h1:ah a k) (h2:ah b l):ah (a*b) (k+l):=by
 rw[Rat.mul_def']
 exact mz (by rw[Int.natAbs_mul];exact h1.1.mul h2.1) (h1.2.mul h2.2) (Nat.mul_ne_zero a.den_nz b.den_nz)
theorem qU {a:Rat} {k:Nat} (h:ah a k):ah a⁻¹ k:=by
 by_cases h0:a=0
 ·subst h0;rw[Rat.inv_zero];exact h
 ·obtain⟨e1,e2⟩:=oP h0
  exact⟨by rw[←e1,dJ];exact h.2,by rw[←e2];exact h.1⟩
theorem dF {a b:Rat} {k l:Nat} (h1:ah a k) (h2:ah b l):ah (a/b) (k+l):=by
 rw[Rat.div_def];exact bf h1 (qU h2)
theorem aW {z:Int} {k:Nat} (h:Lim z.natAbs k) (hk:1≤k):ah (z:Rat) k:=⟨h,Lim.one hk⟩
theorem iR {k:Nat} (hk:1≤k):ah 0 k:=⟨Nat.lt_of_lt_of_le (by decide:0<B32^1) (Nat.pow_le_pow_right aY hk),Lim.one hk⟩
theorem gp {a:Rat} {k:Nat} (h:ah a k):ah a.abs k:=by
 unfold Rat.abs;split
 ·exact h
 ·exact fK h
end
section
theorem Dg.cl {k:IntKind} {b n:Nat} (v:Value):Cl fun w=>Dg w k b v n:=fun _ _ h kp=>Dg.keep h kp
theorem Rq.cl {q:Rat} (v:Value):Cl fun w=>Rq w v q:=fun _ _ h kp=>h.keep kp
theorem Wc.cl {z:Int} (v:Value):Cl fun w=>Wc w v z:=fun _ _ h kp=>h.keep kp
theorem aa:Ty Tryz.prog 55 3 [.bool false,.slice none 0 0,.slice none 0 0]:=⟨⟨_,Tryz.underlying55,rfl⟩,jh,kL⟩
theorem bq:Ty Tryz.prog 53 2 [.bool false,.slice none 0 0]:=⟨⟨_,Tryz.underlying53,rfl⟩,k8,kJ⟩
theorem mC:Ty Tryz.prog 103 2 [.bool false,.slice none 0 0]:=⟨⟨_,Tryz.underlying103,rfl⟩,nM,BP⟩
end
section
def qc (a b:Rat):Int:=ci (a.num*(b.den:Int)) (b.num*(a.den:Int))
theorem Rz.nat {w:World} {s:Value} {d:Nat} (h:Dg w .i64 65536 s d):Rz w (.agg #[.bool false,s]) ((d:Nat):Int):=by
 refine⟨s,?_,by simpa using h⟩
 rw[decide_eq_false (by omega)]
theorem cQ {N k:Nat} (h:Lim N k):Lim ((N:Nat):Int).natAbs k:=by rw[Int.natAbs_natCast];exact h
theorem Rz.zero (w:World):Rz w (.agg #[.bool false,.slice none 0 0]) 0:=⟨_,rfl,Dg.zero _ _ _ _ (by unfold maxLen;omega) (fun _=>rfl)⟩
theorem Rz.neg {w:World} {b:Bool} {a:Value} {z:Int} (h:Rz w (.agg #[.bool b,a]) z):b=decide (z<0):=by
 obtain⟨a',h1,h2⟩:=h
 injection h1 with h1
 simp only [Array.mk.injEq,List.cons.injEq,and_true,Value.bool.injEq] at h1
 exact h1.1
def Rr (w:World) (v:Value) (q:Rat) (k:Nat):Prop:=
 ∃b ad n c ae m d z D,v= .agg #[.bool b,.slice ad n c,.slice ae m d]∧Rz w (.agg #[.bool b,.slice ad n c]) z∧Dg w .i64 65536 (.slice ae m d) D∧0<D∧q=mkRat z D∧Lim z.natAbs k∧Lim D k
def bW (w:World) (q:Rat) (k:Nat) (e:Ending) (w':World):Prop:=∃v,e= .returned v∧Rr w' v q k∧Below w.heap.size w w'
theorem Rr.shape {w:World} {v:Value} {q:Rat} {k:Nat} (h:Rr w v q k):∃b ad n c ae m d z D,v= .agg #[.bool b,.slice ad n c,.slice ae m d]∧Rz w (.agg #[.bool b,.slice ad n c]) z∧Dg w .i64 65536 (.slice ae m d) D∧0<D∧q=mkRat z D∧Lim z.natAbs k∧Lim D k:=h
theorem Rr.form {w:World} {v:Value} {q:Rat} {k:Nat} (h:Rr w v q k):∃b ad n c ae m d,v= .agg #[.bool b,.slice ad n c,.slice ae m d]:=by
 obtain⟨b,ad,n,c,ae,m,d,z,D,h1,_⟩:=h
 exact⟨b,ad,n,c,ae,m,d,h1⟩
theorem Rr.below {w w':World} {v:Value} {q:Rat} {k:Nat} (h:Rr w v q k) (hb:Below w.heap.size w w'):Rr w' v q k:=by
 obtain⟨b,ad,n,c,ae,m,d,z,D,h1,h2,h3,h4⟩:=h
 exact⟨b,ad,n,c,ae,m,d,z,D,h1,h2.below hb,h3.below hb,h4⟩
def Ir (q:Rat) (k:Nat):World→Value→Prop:=fun w v=>Rr w v q k
instance mbr {q:Rat} {k:Nat}:MbI (Ir q k):=⟨fun _ _ _ h hb=>Rr.below h hb⟩
theorem Rr.fo {w:World} {v:Value} {q:Rat} {k:Nat} (h:Rr w v q k):∃r:R7,v=r.v:=by
 obtain⟨b,x,n,c,y,m,d,e⟩:=h.form
 exact⟨⟨b,x,n,c,y,m,d⟩,e⟩
instance mby {z:Int}:MbI (fun w v=>Rz w v z):=⟨fun _ _ _ h hb=>Rz.below h hb⟩
theorem Rr.keep {w w':World} {v:Value} {q:Rat} {k:Nat} (h:Rr w v q k) (kp:eg w w'):Rr w' v q k:=by
 obtain⟨b,ad,n,c,ae,m,d,z,D,h1,h2,h3,h4⟩:=h
 exact⟨b,ad,n,c,ae,m,d,z,D,h1,h2.keep kp,h3.keep kp,h4⟩
theorem Rr.mk {w:World} {b:Bool} {ad ae:Option Addr} {n c m d:Nat} {z:Int} {D:Nat} {q:Rat} {k:Nat} (h1:Rz w (.agg #[.bool b,.slice ad n c]) z) (h2:Dg w .i64 65536 (.slice ae m d) D) (hD:0<D) (hq:q=mkRat z D) (l1:Lim z.natAbs k) (l2:Lim D k):
 Rr w (.agg #[.bool b,.slice ad n c,.slice ae m d]) q k:=⟨b,ad,n,c,ae,m,d,z,D,rfl,h1,h2,hD,hq,l1,l2⟩
theorem Rr.up {w:World} {v:Value} {q:Rat} {k:Nat} (h:Rr w v q k) (j:Nat) (hj:k≤j):Rr w v q j:=by
 obtain⟨b,ad,n,c,ae,m,d,z,D,h1,h2,h3,h4,h5,h6,h7⟩:=h
 exact⟨b,ad,n,c,ae,m,d,z,D,h1,h2,h3,h4,h5,h6.up j hj,h7.up j hj⟩
theorem Rr.cast {w:World} {v:Value} {q q':Rat} {k:Nat} (h:Rr w v q k) (e:q=q'):Rr w v q' k:=by subst e;exact h
theorem wM (w:World):∃v w',(Instr.buildSlice 34 1 #[(0,.int .i64 1)]).run Tryz.prog w= .ok v w'∧Below w.heap.size w w'∧Dg w' .i64 65536 v 1:=by
 refine⟨.slice (some ⟨w.heap.size,0,none⟩) 1 1,w.alloc (.cells #[.int .i64 1] 3),?_,(Below.refl _ _).alloc (Nat.le_refl _) _,?_⟩
 ·have hs:=bn (P:=Tryz.prog) (T:=3) (n:=1) (by kernel_rfl) w
  simp[Instr.buildSlice,go_sem,hs,Instr.fill,Value.cells,newRow]
 ·have e:dg 65536 1=[1]:=by decide+kernel
  unfold Dg
  rw[e]
  refine⟨some ⟨w.heap.size,0,none⟩,1,rfl,⟨fun i hi=>?_⟩,by simp,by unfold maxLen;omega,by simp,fun h=>by cases h⟩
  have h0:i=0:=by simp at hi;omega
  subst h0
  refine⟨w.heap.size,0,rfl,by simp,?_⟩
  rw[cell_of_row _ w.heap.size 0 #[.int .i64 1] 3 (0,0) (heap_alloc_new w _)]
  rfl
theorem LK (z y:Int) (h:y≠0):mkRat (sg (decide (z<0) !=decide (y<0)) z.natAbs) y.natAbs=(z:Rat)/(y:Rat):=by
 rw[←Rat.divInt_eq_div]
 have hz:z=sg (decide (z<0)) z.natAbs:=(sA z).symm
 generalize hb:decide (z<0)=b at*
 rcases Int.lt_or_gt_of_ne h with h'|h'
 ·obtain⟨m,rfl⟩:∃m:Nat,y= -(m:Int):=⟨y.natAbs,by omega⟩
  rw[decide_eq_true h',Rat.divInt_neg',Rat.divInt_ofNat,Int.natAbs_neg,Int.natAbs_natCast]
  congr 1
  generalize z.natAbs=N at*
  subst hz
  cases b <;> simp[sg]
 ·obtain⟨m,rfl⟩:∃m:Nat,y=(m:Int):=⟨y.natAbs,by omega⟩
  rw[decide_eq_false (by omega),Rat.divInt_ofNat,Int.natAbs_natCast]
  congr 1
  generalize z.natAbs=N at*
  subst hz
  cases b <;> simp[sg]
theorem JD {z1 z2:Int} {d1 d2:Nat} (h1:0<d1) (h2:0<d2):((z1*(d2:Int)+z2*(d1:Int):Int):Rat)/(((d1:Int)*(d2:Int):Int):Rat)=mkRat z1 d1+mkRat z2 d2:=by
 rw[Rat.mkRat_add_mkRat _ _ (by omega) (by omega),←Rat.divInt_eq_div,Int.ofNat_mul_ofNat,Rat.divInt_ofNat]
theorem Hw {z1 z2:Int} {d1 d2:Nat} (h1:0<d1) (h2:0<d2):((z1*z2:Int):Rat)/(((d1*d2:Nat):Int):Rat)=mkRat z1 d1*mkRat z2 d2:=by
 rw[Rat.mkRat_mul_mkRat,←Rat.divInt_eq_div,Rat.divInt_ofNat]
theorem Ht {z1 z2:Int} {d1 d2:Nat} (h1:0<d1) (h2:0<d2):((z1*(d2:Int):Int):Rat)/(((d1:Int)*z2:Int):Rat)=mkRat z1 d1/mkRat z2 d2:=by
 have e1:mkRat z1 d1=Rat.divInt z1 (d1:Int):=(Rat.divInt_ofNat z1 d1).symm
 have e2:mkRat z2 d2=Rat.divInt z2 (d2:Int):=(Rat.divInt_ofNat z2 d2).symm
 rw[e1,e2,Rat.div_def (Rat.divInt z1 (d1:Int)),Rat.inv_divInt,Rat.divInt_mul_divInt,Rat.divInt_eq_div]
theorem M9 {z:Int} {d:Nat} (h:0<d):sz z=sz (mkRat z d).num :=by
 rw[Rat.num_mkRat,if_neg (by omega)]
 have hg:Nat.gcd d z.natAbs ∣ z.natAbs:=Nat.gcd_dvd_right _ _
 have hp:0<Nat.gcd d z.natAbs:=Nat.gcd_pos_of_pos_left _ h
 obtain⟨t,ht⟩:((Nat.gcd d z.natAbs:Nat):Int) ∣ z:=Int.ofNat_dvd_left.2 hg
 generalize Nat.gcd d z.natAbs=g at*
 subst ht
 rw[Int.mul_ediv_cancel_left _ (by omega)]
 unfold sz
 rcases Int.lt_trichotomy t 0 with h1|h1|h1
 ·have:=Int.mul_neg_of_pos_of_neg (show(0:Int)<g by omega) h1
  rw[if_neg (by omega),if_pos this,if_neg (by omega),if_pos h1]
 ·subst h1;simp
 ·have:=Int.mul_pos (show(0:Int)<g by omega) h1
  rw[if_neg (by omega),if_neg (by omega),if_neg (by omega),if_neg (by omega)]
theorem uH {z1 z2:Int} {d1 d2:Nat} (h1:0<d1) (h2:0<d2):z1*(d2:Int)<z2*(d1:Int)↔mkRat z1 d1<mkRat z2 d2:=by
 have e1:=Rat.mkRat_eq_div z1 d1
 have e2:=Rat.mkRat_eq_div z2 d2
 have p1:(0:Rat)<(d1:Rat):=Rat.natCast_pos.2 h1
 have p2:(0:Rat)<(d2:Rat):=Rat.natCast_pos.2 h2
 rw[e1,e2,Rat.div_lt_iff p1,←Rat.intCast_lt_intCast,Rat.intCast_mul,Rat.intCast_mul,Rat.intCast_natCast,Rat.intCast_natCast]
 rw[show(z2:Rat)/(d2:Rat)*(d1:Rat)=(z2*(d1:Rat))/(d2:Rat) by rw[Rat.div_def,Rat.div_def,Rat.mul_assoc,Rat.mul_assoc,Rat.mul_comm (d2:Rat)⁻¹]]
 rw[Rat.lt_div_iff p2]
theorem EN {z1 z2:Int} {d1 d2:Nat} (h1:0<d1) (h2:0<d2):ci (z1*(d2:Int)) (z2*(d1:Int))=qc (mkRat z1 d1) (mkRat z2 d2):=by
 have a:=uH (z1:=z1) (z2:=z2) h1 h2
 have b:=uH (z1:=z2) (z2:=z1) h2 h1
 have c:=Rat.lt_iff (mkRat z1 d1) (mkRat z2 d2)
 have d:=Rat.lt_iff (mkRat z2 d2) (mkRat z1 d1)
 unfold qc ci
 simp only [←c,←d,a,b]
end
section
theorem Rr.cl {q:Rat} {k:Nat} (v:Value):Cl fun w=>Rr w v q k:=fun _ _ h kp=>h.keep kp
theorem Rz.cl {z:Int} (v:Value):Cl fun w=>Rz w v z:=fun _ _ h kp=>h.keep kp
theorem ag:Ty Tryz.prog 38 3 [.bool false,.slice none 0 0,.slice none 0 0]:=⟨⟨_,Tryz.underlying38,rfl⟩,kE,pn⟩
theorem aX:Ty Tryz.prog 36 2 [.bool false,.slice none 0 0]:=⟨⟨_,Tryz.underlying36,rfl⟩,mp,mr⟩
end
end
section
section
inductive Pk where
 |ex (v:Value)
 |of (H:World→Value→Prop) (m:Mb H)
 |no
def Pk.H:Pk→World→Value→Prop
 | .ex v=>fun _ u=>u=v
 | .of H _=>H
 | .no =>fun _ _=>True
theorem Pk.mb:∀k:Pk,Mb k.H
 | .ex v=>Mb.eq v
 | .of _ m=>m
 | .no =>Mb.any
def Ret (k:Pk) (w:World):Ending→World→Prop:=fun e w'=>∃v,e= .returned v∧k.H w' v∧Below w.heap.size w w'
def nW (t:Nat):Nat→List Nat→Option Nat
 |_,[]=>none
 |i,x::l=>bif Nat.beq t x then some i else nW t (i+1) l
def lkp (t:Nat):List (Nat×Value)→Option Value
 |[]=>none
 |p::l=>bif Nat.beq t p.1 then some p.2 else lkp t l
def wh (L:List (Nat×Value)) (ds:List Nat) (ks:List Pk):Operand→Pk
 | .const v=> .ex v
 | .tmp t=>match nW t 0 ds with
  |some i=>(ks[i]?).getD .no
  |none=>match lkp t L with
   |some v=> .ex v
   |none=> .no
 |_=> .no
def Obl (P:Program) (L:List (Nat×Value)) (ds:List Nat) (ks:List Pk) (f:FuncId) (k:Pk) (w':World):List Operand→List Value→Prop
 |[],vs=>Calls P f vs.toArray w' (Ret k w')
 |x::r,vs=>match wh L ds ks x with
  | .ex v=>Obl P L ds ks f k w' r (vs++[v])
  | .of H _=>∀u,H w' u→Obl P L ds ks f k w' r (vs++[u])
  | .no =>False
def nV (af:Array Edge) (ds:List Nat):Operand→Bool
 | .tmp t=>match nW t 0 ds with
  |some i=>af.toList.any fun e=>Nat.beq e.on i && Region.binds .any e
  |none=>true
 |_=>true
theorem ug {t:Nat}:∀(l:List Nat) (k i:Nat),nW t k l=some i→∃j,i=k+j∧l[j]?=some t
 |[],_,_,h=>by cases h
 |x::l,k,i,h=>by
  unfold nW at h
  by_cases e:t=x
  ·subst e
   rw[show Nat.beq t t=true by simp,cond_true] at h
   injection h with h
   exact⟨0,h.symm,rfl⟩
  ·rw[show Nat.beq t x=false from Bool.eq_false_iff.2 fun k=>e (Nat.eq_of_beq_eq_true k),cond_false] at h
   obtain⟨j,h1,h2⟩:=ug l (k+1) i h
   exact⟨j+1,by omega,by simpa using h2⟩
theorem wy {t:Nat} {v:Value}:∀(L:List (Nat×Value)),lkp t L=some v→(t,v)∈L
 |[],h=>by cases h
 |p::l,h=>by
  unfold lkp at h
  by_cases e:t=p.1
  ·subst e
   rw[show Nat.beq p.1 p.1=true by simp,cond_true] at h
   injection h with h
   subst h
   exact List.mem_cons_self
  ·rw[show Nat.beq t p.1=false from Bool.eq_false_iff.2 fun k=>e (Nat.eq_of_beq_eq_true k),cond_false] at h
   exact List.mem_cons_of_mem _ (wy l h)
theorem my (ks:List Pk) (i:Nat):Hat (ks.map Pk.H) i=((ks[i]?).getD .no).H :=by
 unfold Hat
 rw[List.getElem?_map]
 cases ks[i]? <;> rfl
theorem uN {nt:Nat} {a':Act} {w':World} {L:List (Nat×Value)} {ds:List Nat} {ks:List Pk} {af:Array Edge} (hF:Fr nt a' L)
 (hd:∀(e:Edge) (s:Nat),e∈af→Region.binds .any e=true→ds[e.on]?=some s→Hat (ks.map Pk.H) e.on w' (a'.tmps.getD s undef)) (x:Operand) (he:nV af ds x=true):(wh L ds ks x).H w' (a'.eval x):=by
 cases x with
 |const v=>rfl
 |tmp t=>
  show Pk.H (match nW t 0 ds with|some i=>(ks[i]?).getD .no |none=>match lkp t L with|some v=> .ex v|none=> .no) w' (a'.tmps.getD t undef)
  have he:(match nW t 0 ds with|some i=>af.toList.any fun e=>Nat.beq e.on i && Region.binds .any e|none=>true)=true:=he
  cases hi:nW t 0 ds with
  |some i=>
   rw[hi] at he
   obtain⟨e,hm,hb⟩:=List.any_eq_true.1 he
   obtain⟨j,h1,h2⟩:=ug ds 0 i hi
   rw[Bool.and_eq_true] at hb
   have ho:e.on=i:=Nat.eq_of_beq_eq_true hb.1
   have:=hd e t (by simpa using hm) hb.2 (by rw[ho,h1,Nat.zero_add];exact h2)
   rw[my,ho] at this
   exact this
  |none=>
   cases hl:lkp t L with
   |some v=>exact hF.all (t,v) (wy L hl)
   |none=>trivial
 |global g=>trivial
 |func f=>trivial
theorem Obl.call {P:Program} {nt:Nat} {a':Act} {w':World} {L:List (Nat×Value)} {ds:List Nat} {ks:List Pk} {af:Array Edge} {f:FuncId} {k:Pk} (hF:Fr nt a' L)
 (hd:∀(e:Edge) (s:Nat),e∈af→Region.binds .any e=true→ds[e.on]?=some s→Hat (ks.map Pk.H) e.on w' (a'.tmps.getD s undef)):
 ∀(xs:List Operand) (vs:List Value),xs.all (nV af ds)=true→Obl P L ds ks f k w' xs vs→Calls P f (vs++xs.map a'.eval).toArray w' (Ret k w')
 |[],vs,_,h=>by rw[List.map_nil,List.append_nil];exact h
 |x::r,vs,hc,h=>by
  rw[List.all_cons,Bool.and_eq_true] at hc
  have ha:=uN hF hd x hc.1
  unfold Obl at h
  have e:vs++(x::r).map a'.eval=(vs++[a'.eval x])++r.map a'.eval:=by simp
  rw[e]
  cases hk:wh L ds ks x with
  |ex v=>
   rw[hk] at h ha
   have ha:a'.eval x=v:=ha
   rw[ha]
   exact Obl.call hF hd r _ hc.2 h
  |of H m=>
   rw[hk] at h ha
   exact Obl.call hF hd r _ hc.2 (h _ ha)
  |no=>rw[hk] at h;exact h.elim
def aw (P:Program) (f:FuncId):Prop:=∃fn,P.funcs[f]?=some fn∧(fn.name == "runtime.NumGoroutine")=false∧fn.body.isNone=false
section
variable {P:Program} {ops:Array Oper} {Q:Exit→Act→World→Prop} {nt:Nat} {L:List (Nat×Value)} {W:World} {ds:List Nat} {ks:List Pk} {al:List Nat} {i:Nat} {dst:Option Tmp} {ty:TypeId} {pos:String} {af:Array Edge}
theorem ck {f:FuncId} {xs:Array Operand} {ts:Array TypeId} {k:Pk} {W0:World} {bs:List (Nat×List Value)} {fs:List (World→Prop)} (st:St W0 W bs fs) (hk:aw P f) (hc:(xs.toList.all (nV af ds) && !al.contains i,ks[i]?)=(true,some k)) (ob:∀w',St W0 w' bs fs→Obl P L ds ks f k w' xs.toList []):
 fQ P ops Q nt L W ds (ks.map Pk.H) al i ⟨dst,.call ⟨.value (.func f),xs,ts⟩,ty,pos,af,none⟩:=by
 intro a' w' hF hb hd
 have hi:=congrArg Prod.snd hc
 replace hc:=congrArg Prod.fst hc
 simp only at hc hi
 rw[Bool.and_eq_true,Bool.not_eq_true'] at hc
 obtain⟨fn,h1,h2,h3⟩:=hk
 have h:=Obl.call hF hd xs.toList [] hc.1 (ob w' (st.to hb))
 rw[List.nil_append,show(xs.toList.map a'.eval).toArray =xs.map a'.eval from by rw[←Array.toList_map,Array.toArray_toList]] at h
 refine cd (aM rfl) (bH.calls (uZ h1 h2 h3 rfl) h ?_)
 rintro e w'' ⟨v,e1,e2,e3⟩
 exact⟨v,e1,by rw[my,hi];exact e2,e3,fun x=>by rw[hc.2] at x;cases x⟩
theorem rd {op:Op} {v:Value} (ha:al.contains i=false) (hi:ks[i]?=some (.ex v)) (hr:∀(a':Act) (w':World),Fr nt a' L→Below W.heap.size W w'→(execOp a'.eval ⟨dst,op,ty,pos,af,none⟩).run P w'= .ok (.value v) w'):
 fQ P ops Q nt L W ds (ks.map Pk.H) al i ⟨dst,op,ty,pos,af,none⟩:=by
 intro a' w' hF hb hd
 exact cd (aM rfl) (bH.vals (hr a' w' hF hb) ⟨by rw[my,hi];rfl,Below.refl _ _,fun x=>by rw[ha] at x;cases x⟩)
theorem rv {x:Operand} {k:Pk} (h:(nV af ds x && !al.contains i,ks[i]?,wh L ds ks x)=(true,some k,k)):
 fQ P ops Q nt L W ds (ks.map Pk.H) al i ⟨dst,.assign x,ty,pos,af,none⟩:=by
 intro a' w' hF hb hd
 simp only [Prod.mk.injEq] at h
 obtain⟨h1,h2,h3⟩:=h
 rw[Bool.and_eq_true,Bool.not_eq_true'] at h1
 exact cd (aM rfl) (bH.vals (a8 rfl) ⟨by rw[my,h2,←h3];exact uN hF hd x h1.1,Below.refl _ _,fun y=>by rw[h1.2] at y;cases y⟩)
theorem rb {T:TypeId} {x:Operand} {n g:Nat} {zs cs:List Value} {bs:List (Nat×List Value)} {fs:List (World→Prop)} {W0:World} {s:Nat} (st:St W0 W bs fs) (hT:Ty P T n zs) (j b:Nat) (h:(x,L[j]?,bs[b]?,cs.length,al.contains i,ks[i]?)=(.tmp s,some (s,.pointer (some ⟨g,0,none⟩)),some (g,cs),n,false,some (.ex (.agg cs.toArray)))):
 fQ P ops Q nt L W ds (ks.map Pk.H) al i ⟨dst,.load T x,ty,pos,af,none⟩:=by
 simp only [Prod.mk.injEq] at h
 obtain⟨hx,hj,hb,hn,ha,hi⟩:=h
 exact rd ha hi fun a' w' hF hbl=>by
  subst hx
  exact au (hF.at j hj) (bF hT ((st.bk b hb).below hbl) hn)
theorem sD:∀ks:List Pk,nU (ks.map Pk.H)
 |[]=>trivial
 |k::l=>⟨k.mb,sD l⟩
end
def Rl (q:Rat) (k:Nat) (w:World) (v:Value):Prop:=Rq w v q∧ah q k
theorem Rl.mb (q:Rat) (k:Nat):Mb (Rl q k):=fun _ _ _ h hb=>⟨h.1.below hb,h.2⟩
theorem Rl.cl {q:Rat} {k:Nat} (v:Value):Cl fun w=>Rl q k w v:=fun _ _ h kp=>⟨h.1.keep kp,h.2⟩
theorem Rl.below {q:Rat} {k:Nat} {w w':World} {v:Value} (h:Rl q k w v) (hb:Below w.heap.size w w'):Rl q k w' v:=⟨h.1.below hb,h.2⟩
abbrev kq (q:Rat) (k:Nat):Pk:= .of (Rl q k) (Rl.mb q k)
theorem aB {P:Program} {f:FuncId} {args:Array Value} {w:World} {q:Rat} {k:Nat} (h:Calls P f args w (bl w q)) (l:ah q k):Calls P f args w (Ret (kq q k) w):=h.mono fun _ _ ⟨v,e,h,b⟩=>⟨v,e,⟨h,l⟩,b⟩
def Rh (q:Rat) (k i:Nat) (w:World) (v:Value):Prop:=Rr w v q k∧ah q i
theorem Rh.mb (q:Rat) (k i:Nat):Mb (Rh q k i):=fun _ _ _ h hb=>⟨h.1.below hb,h.2⟩
theorem Rh.cl {q:Rat} {k i:Nat} (v:Value):Cl fun w=>Rh q k i w v:=fun _ _ h kp=>⟨h.1.keep kp,h.2⟩
abbrev kh (q:Rat) (k i:Nat):Pk:= .of (Rh q k i) (Rh.mb q k i)
theorem aJ {P:Program} {f:FuncId} {args:Array Value} {w:World} {q:Rat} {k i:Nat} (h:Calls P f args w (bW w q k)) (l:ah q i):Calls P f args w (Ret (kh q k i) w):=h.mono fun _ _ ⟨v,e,h,b⟩=>⟨v,e,⟨h,l⟩,b⟩
def Wl (z:Int) (k:Nat) (w:World) (v:Value):Prop:=Wc w v z∧Lim z.natAbs k
theorem Wl.mb (z:Int) (k:Nat):Mb (Wl z k):=fun _ _ _ h hb=>⟨h.1.below hb,h.2⟩
theorem Wl.cl {z:Int} {k:Nat} (v:Value):Cl fun w=>Wl z k w v:=fun _ _ h kp=>⟨h.1.keep kp,h.2⟩
abbrev kw (z:Int) (k:Nat):Pk:= .of (Wl z k) (Wl.mb z k)
theorem d7 {P:Program} {f:FuncId} {args:Array Value} {w:World} {z:Int} {k:Nat} (h:Calls P f args w (eZ w z)) (l:Lim z.natAbs k):Calls P f args w (Ret (kw z k) w):=h.mono fun _ _ ⟨v,e,h,b⟩=>⟨v,e,⟨h,l⟩,b⟩
def Zl (z:Int) (k:Nat) (w:World) (v:Value):Prop:=Rz w v z∧Lim z.natAbs k
theorem Zl.mb (z:Int) (k:Nat):Mb (Zl z k):=fun _ _ _ h hb=>⟨h.1.below hb,h.2⟩
theorem Zl.cl {z:Int} {k:Nat} (v:Value):Cl fun w=>Zl z k w v:=fun _ _ h kp=>⟨h.1.keep kp,h.2⟩
abbrev kz (z:Int) (k:Nat):Pk:= .of (Zl z k) (Zl.mb z k)
theorem dt {P:Program} {f:FuncId} {args:Array Value} {w:World} {z:Int} {k:Nat} (h:Calls P f args w (jk w z)) (l:Lim z.natAbs k):Calls P f args w (Ret (kz z k) w):=h.mono fun _ _ ⟨v,e,h,b⟩=>⟨v,e,⟨h,l⟩,b⟩
theorem a9 {P:Program} {f:FuncId} {args:Array Value} {w:World} {v:Value} (h:Calls P f args w fun e w'=>e= .returned v∧Below w.heap.size w w'):Calls P f args w (Ret (.ex v) w):=h.mono fun _ _ ⟨e,b⟩=>⟨v,e,rfl,b⟩
theorem je {P:Program} {f:FuncId} {args:Array Value} {w:World} {H:World→Value→Prop} {m:Mb H} (h:Calls P f args w fun e w'=>∃v,e= .returned v∧H w' v∧Below w.heap.size w w'):Calls P f args w (Ret (.of H m) w):=h
section
variable {P:Program} {ops:Array Oper} {Q:Exit→Act→World→Prop} {W w:World} {bs:List (Nat×List Value)} {fs:List (World→Prop)} {nt d s:Nat} {L:List (Nat×Value)} {rest:List Oper} {a:Act} {x:Value} {ds:List Nat} {Hs:List (World→Value→Prop)} {H:World→Value→Prop}
theorem rgc {f:FuncId} {xs:Array Operand} {ts:Array TypeId} {args:Array Value} {dst:Option Tmp} {gd:Option (Nat×Bool)} {ty:TypeId} {pos:String} {af:Array Edge} (k:aw P f) (h:xs.map a.eval=args):(execOp a.eval ⟨dst,.call ⟨.value (.func f),xs,ts⟩,ty,pos,af,gd⟩).run P w= .ok (.enter f args) w:=by
 obtain⟨fn,h1,h2,h3⟩:=k
 exact uZ h1 h2 h3 h
theorem rg2 {b c:Bool} (h:(b && c)=true):b=true∧c=true:=by rwa[Bool.and_eq_true] at h
theorem S.ck {f:FuncId} {args:Array Value} {m:Mb H} {op:Op} {ty:TypeId} {pos:String} {af:Array Edge} (st:St W w bs fs) (hF:Fr nt a L) (hr:(execOp a.eval ⟨some d,op,ty,pos,af,none⟩).run P w= .ok (.enter f args) w) (hc:Calls P f args w (Ret (.of H m) w)) (hcl:∀v,Cl fun w=>H w v) (hk:(Nat.blt d nt && bB d L)=true)
 (k:∀v w' a',St W w' bs ((fun w=>H w v)::fs)→Fr nt a' ((d,v)::L)→wpS P ops Q rest a' w'):wpS P ops Q (⟨some d,op,ty,pos,af,none⟩::rest) a w:=
 S.call (H:=fun v w=>H w v) st hF hr hc (fun _ _ h=>h) hcl rfl rfl (rg2 hk).1 (rg2 hk).2 k
theorem S.ckg {f:FuncId} {args:Array Value} {m:Mb H} {o:Oper} (st:St W w bs fs) (hF:Fr nt a L) (hg:Region.wanted o (yielded ops a.tmps)=true) (hr:(execOp a.eval o).run P w= .ok (.enter f args) w) (hc:Calls P f args w (Ret (.of H m) w)) (hcl:∀v,Cl fun w=>H w v) (hd:o.dst=some d) (hlt:Nat.blt d nt=true) (hf:bB d L=true)
 (k:∀v w' a',St W w' bs ((fun w=>H w v)::fs)→Fr nt a' ((d,v)::L)→wpS P ops Q rest a' w'):wpS P ops Q (o::rest) a w:=
 S.callg (H:=fun v w=>H w v) st hF hg hr hc (fun _ _ h=>h) hcl hd hlt hf k
theorem rE (hall:∀(i s:Nat),ds[i]?=some s→Hat Hs i w (a.tmps.getD s undef)) (hF:Fr nt a L) (i:Nat) (hs:ds[i]?=some s) (hH:Hs[i]?=some fun _ v=>v=x):Fr nt a ((s,x)::L):=hF.add (sSe hall i s hs hH)
theorem rS (hall:∀(i s:Nat),ds[i]?=some s→Hat Hs i w (a.tmps.getD s undef)) (hF:Fr nt a L) (st:St W w bs fs) (i:Nat) (hs:ds[i]?=some s) (hH:Hs[i]?=some H) (hc:∀v,Cl fun w=>H w v):∃v,Fr nt a ((s,v)::L)∧St W w bs ((fun w=>H w v)::fs):=by
 obtain⟨v,e,h⟩:=sS hall i s hs hH
 exact⟨v,hF.add e,st.add h (hc v)⟩
end
section
variable {P:Program} {ops:Array Oper} {Q:Exit→Act→World→Prop} {nt:Nat} {L:List (Nat×Value)} {W:World} {ds:List Nat} {ks:List Pk} {al:List Nat} {i s:Nat} {dst:Option Tmp} {ty:TypeId} {pos:String} {af:Array Edge} {v:Value}
theorem rm (j:Nat) (h:(L[j]?,al.contains i,ks[i]?)=(some (s,v),false,some (.ex v))):fQ P ops Q nt L W ds (ks.map Pk.H) al i ⟨dst,.move (.tmp s),ty,pos,af,none⟩:=by
 simp only [Prod.mk.injEq] at h
 exact rd h.2.1 h.2.2 fun a' w' hF _=>aN (hF.at j h.1)
end
def uX (W:World) (zs:List Value) (w:World) (v:Value):Prop:=∃g,v= .pointer (some ⟨g,0,none⟩)∧W.heap.size≤g∧Own w g zs
theorem uX.mb (W:World) (zs:List Value):Mb (uX W zs):=fun _ _ _ ⟨g,e,l,o⟩ hb=>⟨g,e,l,o.below hb⟩
abbrev kn (W:World) (zs:List Value):Pk:= .of (uX W zs) (uX.mb W zs)
def vV (W:World) (zs:List Value) (w:World) (v:Value):Prop:=∃g,v= .pointer (some ⟨g,0,none⟩)∧W.heap.size≤g∧Blk w g zs
theorem vV.mb (W:World) (zs:List Value):Mb (vV W zs):=fun _ _ _ ⟨g,e,l,o⟩ hb=>⟨g,e,l,o.below hb⟩
abbrev kb (W:World) (zs:List Value):Pk:= .of (vV W zs) (vV.mb W zs)
section
variable {P:Program} {ops:Array Oper} {Q:Exit→Act→World→Prop} {nt n:Nat} {L:List (Nat×Value)} {W:World} {ds:List Nat} {ks:List Pk} {al:List Nat} {i d:Nat} {ty:TypeId} {pos:String} {af:Array Edge} {T:TypeId} {zs:List Value}
theorem ra (hT:Ty P T n zs) (hc:zs.all cK=true) (h:(ks[i]?,al.contains i)=(some (kn W zs),true)):fQ P ops Q nt L W ds (ks.map Pk.H) al i ⟨some d,.alloc T,ty,pos,af,none⟩:=by
 simp only [Prod.mk.injEq] at h
 intro a' w' hF' hb hd
 have hH:(ks.map Pk.H)[i]?=some (uX W zs):=by rw[List.getElem?_map,h.1];rfl
 exact da0 hT hc hb.size hH
theorem rai (hT:Ty P T n zs) (h:(ks[i]?,al.contains i)=(some (kb W zs),true)):fQ P ops Q nt L W ds (ks.map Pk.H) al i ⟨some d,.alloc T,ty,pos,af,none⟩:=by
 simp only [Prod.mk.injEq] at h
 intro a' w' hF' hb hd
 have hH:(ks.map Pk.H)[i]?=some (vV W zs):=by rw[List.getElem?_map,h.1];rfl
 exact Ot hT hb.size hH
end
section
variable {P:Program} {Q:Exit→Act→World→Prop}
theorem E.rg {nt id:Nat} (n:Nat) {l:List Oper} {L:List (Nat×Value)} {a:Act} {w:World} (hm:P.follows .mixedOrders =true) (hF:Fr nt a L) (ds:List Nat) (ks:List Pk) (hback:(dR l.toArray && gt l.toArray n)=true) (hn:Nat.ble n l.length=true) (hds:fX l.toArray n=ds.map some) (hap:jr ds nt L=true)
 (steps:km P l.toArray Q nt L w ds (ks.map Pk.H) [] 0 (l.take n))
 (tail:∀(a':Act) (w':World),Fr nt a' L→Below w.heap.size w w'→(∀(i s:Nat),ds[i]?=some s→Hat (ks.map Pk.H) i w' (a'.tmps.getD s undef))→wpS P l.toArray Q (l.drop n) a' w'):
 (Code.region id l.toArray true).wp P Q a w:=by
 rw[Bool.and_eq_true] at hback
 exact E.drawn n hm hF ds (ks.map Pk.H) [] hback.1 hback.2 hn hds hap (sD ks) trivial steps fun a' w' h1 h2 h3 _=>tail a' w' h1 h2 h3
theorem E.rga {nt id:Nat} (n:Nat) {l:List Oper} {L:List (Nat×Value)} {a:Act} {w:World} (hm:P.follows .mixedOrders =true) (hF:Fr nt a L) (ds:List Nat) (ks:List Pk) (al:List Nat) (hA:nS (ks.map Pk.H) al) (hback:(dR l.toArray && gt l.toArray n)=true) (hn:Nat.ble n l.length=true) (hds:fX l.toArray n=ds.map some) (hap:jr ds nt L=true)
 (steps:km P l.toArray Q nt L w ds (ks.map Pk.H) al 0 (l.take n))
 (tail:∀(a':Act) (w':World),Fr nt a' L→Below w.heap.size w w'→(∀(i s:Nat),ds[i]?=some s→Hat (ks.map Pk.H) i w' (a'.tmps.getD s undef))→
   (∀(i j s t:Nat),al.contains i=true→al.contains j=true→i≠j→ds[i]?=some s→ds[j]?=some t→a'.tmps.getD s undef≠a'.tmps.getD t undef)→wpS P l.toArray Q (l.drop n) a' w'):
 (Code.region id l.toArray true).wp P Q a w:=by
 rw[Bool.and_eq_true] at hback
 exact E.drawn n hm hF ds (ks.map Pk.H) al hback.1 hback.2 hn hds hap (sD ks) hA steps tail
end
section
variable {Q:Exit→Act→World→Prop} {a:Act} {w:World}
theorem E.pastr {R:Act→World→Prop} (h:Q .ret a w):Exit.then R Q .ret a w:=h
theorem E.jumpr {l:Nat} {J:Act→World→Prop} (h:Q .ret a w):Exit.jump l J Q .ret a w:=h
end
end
end
end Go.Proofs.YtdbiegfmgabicaaGreatDoor
