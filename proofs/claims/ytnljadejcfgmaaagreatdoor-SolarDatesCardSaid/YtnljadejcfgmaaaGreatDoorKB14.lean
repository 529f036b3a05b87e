import Derived.Test.YtnljadejcfgmaaaGreatDoorKB11
import Derived.Test.YtnljadejcfgmaaaGreatDoorKB13
namespace Go.Proofs.YtnljadejcfgmaaaGreatDoor
open Go.RowKit
set_option maxRecDepth 100000
set_option linter.unusedVariables false
set_option maxHeartbeats 8000000
section
section
theorem Dg.len {w:World} {k:IntKind} {b:Nat} {ad:Option Addr} {m c N:Nat} (h:Dg w k b (.slice ad m c) N):m=dl b N:=by
 obtain⟨ad',cap,h1,_⟩:=h
 rw[aB] at h1
 injection h1
theorem Dg.len0 {w:World} {k:IntKind} {b:Nat} {ad:Option Addr} {m c:Nat} (h:Dg w k b (.slice ad m c) 0):m=0:=by rw[h.len,dX]
theorem Dg.lenp {w:World} {k:IntKind} {b:Nat} (hb:2≤b) {ad:Option Addr} {m c N:Nat} (h:Dg w k b (.slice ad m c) N) (hN:0<N):0<m:=by rw[h.len];exact dH hb hN
theorem Wc.cast {w:World} {v:Value} {z z':Int} (h:Wc w v z) (e:z=z'):Wc w v z':=by subst e;exact h
def dn (q:Rat):Nat:=if q=0 then 0 else q.den
theorem uN:dn 0=0:=if_pos rfl
theorem nC {q:Rat} (h:q≠0):dn q=q.den:=if_neg h
def Rq (w:World) (v:Value) (q:Rat):Prop:=
 ∃b ad n c ae m d,v= .agg #[.bool b,.slice ad n c,.slice ae m d]∧Wc w (.agg #[.bool b,.slice ad n c]) q.num∧Dg w .u32 B32 (.slice ae m d) (dn q)
def bl (w:World) (q:Rat) (e:Ending) (w':World):Prop:=∃v,e= .returned v∧Rq w' v q∧Below w.heap.size w w'
theorem Rq.shape {w:World} {v:Value} {q:Rat} (h:Rq w v q):∃b ad n c ae m d,v= .agg #[.bool b,.slice ad n c,.slice ae m d]∧Wc w (.agg #[.bool b,.slice ad n c]) q.num∧Dg w .u32 B32 (.slice ae m d) (dn q):=h
theorem Rq.form {w:World} {v:Value} {q:Rat} (h:Rq w v q):∃b ad n c ae m d,v= .agg #[.bool b,.slice ad n c,.slice ae m d]:=by
 obtain⟨b,ad,n,c,ae,m,d,h1,_⟩:=h
 exact⟨b,ad,n,c,ae,m,d,h1⟩
theorem Rq.below {w w':World} {v:Value} {q:Rat} (h:Rq w v q) (hb:Below w.heap.size w w'):Rq w' v q:=by
 obtain⟨b,ad,n,c,ae,m,d,h1,h2,h3⟩:=h
 exact⟨b,ad,n,c,ae,m,d,h1,h2.below hb,h3.below hb⟩
def Iq (q:Rat):World→Value→Prop:=fun w v=>Rq w v q
instance mbq {q:Rat}:MbI (Iq q):=⟨fun _ _ _ h hb=>Rq.below h hb⟩
theorem Rq.fo {w:World} {v:Value} {q:Rat} (h:Rq w v q):∃r:R7,v=r.v:=by
 obtain⟨b,x,n,c,y,m,d,e⟩:=h.form
 exact⟨⟨b,x,n,c,y,m,d⟩,e⟩
instance mbd {k:IntKind} {b n:Nat}:MbI (fun w v=>Dg w k b v n):=⟨fun _ _ _ h hb=>Dg.below h hb⟩
instance mbw {z:Int}:MbI (fun w v=>Wc w v z):=⟨fun _ _ _ h hb=>Wc.below h hb⟩
instance mbx {z:Int}:MbI (fun w v=>Wz w v z):=⟨fun _ _ _ h hb=>Wz.below h hb⟩
instance mbg {b:Bool} {n:Nat}:MbI (fun w v=>Wg w v b n):=⟨fun _ _ _ h hb=>Wg.below h hb⟩
theorem Rq.keep {w w':World} {v:Value} {q:Rat} (h:Rq w v q) (kp:dA w w'):Rq w' v q:=by
 obtain⟨b,ad,n,c,ae,m,d,h1,h2,h3⟩:=h
 exact⟨b,ad,n,c,ae,m,d,h1,h2.keep kp,h3.keep kp⟩
theorem zh {q:Rat} (h:q.num≠0):q≠0:=fun e=>h (by rw[e];rfl)
theorem tY {q:Rat} (h:q≠0):q.num≠0:=fun e=>h (Rat.num_eq_zero.1 e)
theorem Rq.zero (w:World):Rq w (.agg #[.bool false,.slice none 0 0,.slice none 0 0]) 0:=
 ⟨false,none,0,0,none,0,0,rfl,Wc.zero w,by rw[uN];exact Dg.nil w⟩
theorem Rq.mk {w:World} {b:Bool} {ad ae:Option Addr} {n c m d N D:Nat} {q:Rat} (h1:Dg w .u32 B32 (.slice ad n c) N) (h2:Dg w .u32 B32 (.slice ae m d) D) (hN:N≠0) (hz:sg b N=q.num) (hd:D=q.den):
 Rq w (.agg #[.bool b,.slice ad n c,.slice ae m d]) q:=by
 have hp:0<N:=by omega
 have hne:q.num≠0:=by rw[←hz];intro e;have:=congrArg Int.natAbs e;rw[dG] at this;simp at this;omega
 have hw:Wc w (.agg #[.bool b,.slice ad n c]) (sg b N):=by
  have:=Wc.sg (neg:=b) h1 hp
  exact this
 rw[hz] at hw
 exact⟨b,ad,n,c,ae,m,d,rfl,hw,by rw[nC (zh hne),←hd];exact h2⟩
theorem yU {b:Bool} {N:Nat} (h:N=0):sz (sg b N)=0:=by subst h;rw[eF];rfl
theorem zi {b:Bool} {N:Nat} (h:N≠0):sz (sg b N)≠0:=by
 unfold sz sg
 cases b <;> simp <;> (repeat' split) <;> omega
theorem zI {z:Int}:sz z=0↔z=0:=by
 unfold sz;split <;> (try split) <;> simp_all
theorem jk {x:Int} (h:x≠0):decide (x=0)=false:=decide_eq_false h
def au (q:Rat) (k:Nat):Prop:=Lim q.num.natAbs k∧Lim q.den k
theorem Lim.one {k:Nat} (hk:1≤k):Lim 1 k:=Nat.lt_of_lt_of_le (by decide:1<B32^1) (Nat.pow_le_pow_right aZ hk)
theorem fA {a b k:Nat} (h:Lim a k):Lim (a/b) k:=h.le (Nat.div_le_self a b)
theorem zU (b1 b2:Bool) (N M:Nat) (hM:M≠0):sg (b1 !=b2) (N/Nat.gcd N M)=((sg b1 N:Rat)/(sg b2 M:Rat)).num ∧(N/Nat.gcd N M≠0→M/Nat.gcd N M=((sg b1 N:Rat)/(sg b2 M:Rat)).den):=by
 have e:((sg b1 N:Rat)/(sg b2 M:Rat))=mkRat (sg (b1 !=b2) N) M:=by
  rw[←Rat.divInt_eq_div]
  cases b1 <;> cases b2 <;> simp[sg,Rat.divInt_neg',Rat.divInt_ofNat]
 rw[e,Rat.num_mkRat,Rat.den_mkRat,if_neg hM,if_neg hM,dG,Nat.gcd_comm M N]
 refine⟨?_,fun _=>rfl⟩
 have hg:=Nat.gcd_dvd_left N M
 obtain⟨t,ht⟩:=hg
 generalize Nat.gcd N M=g at*
 subst ht
 by_cases hg0:g=0
 ·subst hg0;simp[sg]
 ·have hgp:0<g:=by omega
  rw[Nat.mul_div_cancel_left t hgp]
  unfold sg
  split
  ·have:(-(((g*t:Nat):Int)))=(g:Int)*(-(t:Int)):=by rw[Int.mul_neg];simp
   rw[this,Int.mul_ediv_cancel_left _ (by omega)]
  ·have:(((g*t:Nat):Int))=(g:Int)*(t:Int):=by simp
   rw[this,Int.mul_ediv_cancel_left _ (by omega)]
theorem k5 (z:Int):sg (decide (z<0)) z.natAbs=z:=nm z
theorem ve (b:Bool) (N g:Nat):(sg b N).tdiv (g:Int)=sg b (N/g):=by
 unfold sg;cases b <;> simp
theorem DZ (b:Bool) {N g:Nat} (h:g ∣ N):sg b N/(g:Int)=sg b (N/g):=by
 obtain⟨t,rfl⟩:=h
 by_cases hg0:g=0
 ·subst hg0;simp[sg]
 ·have hgp:0<g:=by omega
  rw[Nat.mul_div_cancel_left t hgp]
  unfold sg
  split
  ·have:(-(((g*t:Nat):Int)))=(g:Int)*(-(t:Int)):=by rw[Int.mul_neg];simp
   rw[this,Int.mul_ediv_cancel_left _ (by omega)]
  ·have:(((g*t:Nat):Int))=(g:Int)*(t:Int):=by simp
   rw[this,Int.mul_ediv_cancel_left _ (by omega)]
theorem y8 (a b:Rat):
 sg (decide (a.num*((b.den/Nat.gcd a.den b.den:Nat):Int)+b.num*((a.den/Nat.gcd a.den b.den:Nat):Int)<0)) ((a.num*((b.den/Nat.gcd a.den b.den:Nat):Int)+b.num*((a.den/Nat.gcd a.den b.den:Nat):Int)).natAbs /Nat.gcd (a.num*((b.den/Nat.gcd a.den b.den:Nat):Int)+b.num*((a.den/Nat.gcd a.den b.den:Nat):Int)).natAbs (Nat.gcd a.den b.den))=(a+b).num ∧
 (a.den/Nat.gcd a.den b.den)*(b.den/Nat.gcd (a.num*((b.den/Nat.gcd a.den b.den:Nat):Int)+b.num*((a.den/Nat.gcd a.den b.den:Nat):Int)).natAbs (Nat.gcd a.den b.den))=(a+b).den :=by
 have haux:=Rat.add.aux a b (g:=Nat.gcd a.den b.den) (ad:=a.den/Nat.gcd a.den b.den) (bd:=b.den/Nat.gcd a.den b.den) rfl rfl rfl
 dsimp only at haux
 have hg:Nat.gcd a.den b.den≠0:=Nat.gcd_ne_zero_left a.den_nz
 have e1:a.den/Nat.gcd a.den b.den*Nat.gcd a.den b.den=a.den:=Nat.div_mul_cancel (Nat.gcd_dvd_left _ _)
 have e2:b.den/Nat.gcd a.den b.den*Nat.gcd a.den b.den=b.den:=Nat.div_mul_cancel (Nat.gcd_dvd_right _ _)
 have hd2:Nat.gcd a.den b.den ∣ b.den:=Nat.gcd_dvd_right _ _
 have hd0:a.den/Nat.gcd a.den b.den*b.den≠0:=Nat.mul_ne_zero (fun e=>a.den_nz (by rw[←e1,e,Nat.zero_mul])) b.den_nz
 have key:a+b=mkRat (a.num*((b.den/Nat.gcd a.den b.den:Nat):Int)+b.num*((a.den/Nat.gcd a.den b.den:Nat):Int)) (a.den/Nat.gcd a.den b.den*b.den):=by
  rw[Rat.add_def',←Rat.mkRat_mul_right hg (n:=a.num*((b.den/Nat.gcd a.den b.den:Nat):Int)+b.num*((a.den/Nat.gcd a.den b.den:Nat):Int))]
  congr 1
  ·rw[Int.add_mul,Int.mul_assoc,Int.mul_assoc,Int.ofNat_mul_ofNat,Int.ofNat_mul_ofNat,e1,e2]
  ·rw[Nat.mul_right_comm,e1]
 generalize a.num*((b.den/Nat.gcd a.den b.den:Nat):Int)+b.num*((a.den/Nat.gcd a.den b.den:Nat):Int)=S at*
 generalize Nat.gcd a.den b.den=g at*
 rw[key,Rat.num_mkRat,Rat.den_mkRat,if_neg hd0,if_neg hd0,Nat.gcd_comm _ S.natAbs,←haux]
 refine⟨?_,?_⟩
 ·have:=DZ (decide (S<0)) (Nat.gcd_dvd_left S.natAbs g)
  rw[k5] at this
  exact this.symm
 ·rw[Nat.mul_div_assoc _ (Nat.dvd_trans (Nat.gcd_dvd_right S.natAbs g) hd2)]
theorem yr (a b:Rat):
 sg (decide (a.num<0) !=decide (b.num<0)) (a.num.natAbs/Nat.gcd a.num.natAbs b.den*(b.num.natAbs/Nat.gcd b.num.natAbs a.den))=(a*b).num ∧
 a.den/Nat.gcd b.num.natAbs a.den*(b.den/Nat.gcd a.num.natAbs b.den)=(a*b).den :=by
 have e1:(a*b).num =a.num.tdiv (Nat.gcd a.num.natAbs b.den:Nat)*b.num.tdiv (Nat.gcd b.num.natAbs a.den:Nat):=by
  show(Rat.mul a b).num =_
  delta Rat.mul
  simp only [Int.divExact_eq_tdiv]
 have e2:(a*b).den =a.den/Nat.gcd b.num.natAbs a.den*(b.den/Nat.gcd a.num.natAbs b.den):=by
  show(Rat.mul a b).den =_
  delta Rat.mul
  simp only [Nat.divExact_eq_div]
 refine⟨?_,e2.symm⟩
 rw[e1]
 have h1:=ve (decide (a.num<0)) a.num.natAbs (Nat.gcd a.num.natAbs b.den)
 have h2:=ve (decide (b.num<0)) b.num.natAbs (Nat.gcd b.num.natAbs a.den)
 rw[k5] at h1 h2
 rw[h1,h2,←tS]
 rfl
theorem mA {a:Rat} (h:a≠0):sg (decide (a.num<0)) a.den=(a⁻¹).num ∧a.num.natAbs=(a⁻¹).den :=by
 have hn:=tY h
 rw[Rat.num_inv,Rat.den_inv,if_neg hn]
 refine⟨?_,rfl⟩
 unfold sg
 by_cases hl:a.num<0
 ·rw[if_pos (by simpa using hl),Int.sign_eq_neg_one_of_neg hl];omega
 ·rw[if_neg (by simpa using hl),Int.sign_eq_one_of_pos (by omega)];omega
theorem lw {z:Int} {d k:Nat} (h1:Lim z.natAbs k) (h2:Lim d k) (hd:d≠0):au (mkRat z d) k:=by
 refine⟨h1.le ?_,h2.le ?_⟩
 ·rw[Rat.num_mkRat,if_neg hd,Int.natAbs_ediv_of_dvd (by rw[Int.ofNat_dvd_left];exact Nat.gcd_dvd_right _ _)]
  exact Nat.div_le_self _ _
 ·rw[Rat.den_mkRat,if_neg hd];exact Nat.div_le_self _ _
theorem au.up {q:Rat} {a:Nat} (h:au q a) (b:Nat) (hl:a≤b):au q b:=⟨h.1.up b hl,h.2.up b hl⟩
theorem au.pos {q:Rat} {a:Nat} (h:au q a):1≤a:=by
 by_cases e:a=0
 ·subst e
  have h2:=h.2
  unfold Lim at h2
  have:=q.den_pos
  rw[Nat.pow_zero] at h2
  omega
 ·omega
theorem bp {a b:Rat} {k l:Nat} (h1:au a k) (h2:au b l):au (a+b) (k+l+1):=by
 rw[Rat.add_def']
 refine lw ?_ ((h1.2.mul h2.2).up _ (by omega)) (Nat.mul_ne_zero a.den_nz b.den_nz)
 refine lU (a:=k+l) (b:=k+l) ?_ ?_ _ (by omega) (by omega)
 ·rw[Int.natAbs_mul];exact h1.1.mul h2.2
 ·rw[Int.natAbs_mul];exact(h2.1.mul h1.2).up _ (by omega)
theorem eM {a:Rat} {k:Nat} (h:au a k):au (-a) k:=⟨by rw[Rat.neg_num,Int.natAbs_neg];exact h.1,h.2⟩
theorem bQ {a b:Rat} {k l:Nat} (h1:au a k) (h2:au b l):au (a-b) (k+l+1):=by
 rw[Rat.sub_eq_add_neg];exact bp h1 (eM h2)
theorem a7 {a b:Rat} {k l:Nat} (h1:au a k) (h2:au b l):au (a*b) (k+l):=by
 rw[Rat.mul_def']
 exact lw (by rw[Int.natAbs_mul];exact h1.1.mul h2.1) (h1.2.mul h2.2) (Nat.mul_ne_zero a.den_nz b.den_nz)
theorem rM {a:Rat} {k:Nat} (h:au a k):au a⁻¹ k:=by
 by_cases h0:a=0
 ·subst h0;rw[Rat.inv_zero];exact h
 ·obtain⟨e1,e2⟩:=mA h0
  exact⟨by rw[←e1,dG];exact h.2,by rw[←e2];exact h.1⟩
theorem cF {a b:Rat} {k l:Nat} (h1:au a k) (h2:au b l):au (a/b) (k+l):=by
 rw[Rat.div_def];exact a7 h1 (rM h2)
theorem a9 {z:Int} {k:Nat} (h:Lim z.natAbs k) (hk:1≤k):au (z:Rat) k:=⟨h,Lim.one hk⟩
theorem jg {k:Nat} (hk:1≤k):au 0 k:=⟨Nat.lt_of_lt_of_le (by decide:0<B32^1) (Nat.pow_le_pow_right aZ hk),Lim.one hk⟩
theorem fq {a:Rat} {k:Nat} (h:au a k):au a.abs k:=by
 unfold Rat.abs;split
 ·exact h
 ·exact eM h
end
section
theorem Dg.cl {k:IntKind} {b n:Nat} (v:Value):Cl fun w=>Dg w k b v n:=fun _ _ h kp=>Dg.keep h kp
theorem Rq.cl {q:Rat} (v:Value):Cl fun w=>Rq w v q:=fun _ _ h kp=>h.keep kp
theorem Wc.cl {z:Int} (v:Value):Cl fun w=>Wc w v z:=fun _ _ h kp=>h.keep kp
theorem ah:Ty Tryz.prog 33 3 [.bool false,.slice none 0 0,.slice none 0 0]:=⟨⟨_,Tryz.underlying33,rfl⟩,ie,f8⟩
theorem cA:Ty Tryz.prog 31 2 [.bool false,.slice none 0 0]:=⟨⟨_,Tryz.underlying31,rfl⟩,jZ,kV⟩
theorem ln:Ty Tryz.prog 140 2 [.bool false,.slice none 0 0]:=⟨⟨_,Tryz.underlying140,rfl⟩,mS,zz⟩
end
section
theorem fD (v1 v2:Value) (N M:Nat) (w:World) (h1:Nt w v1 N) (h2:Nt w v2 M):
 Calls Tryz.prog 118 #[v1,v2] w (jh w (N/M)):=by
 have st:=St.start w
 refine go2 (nt:=14) Tryz.func118 rfl rfl rfl fun a hF=>?_
 refine wq ?_
 refine oC hF rfl fun a hF=>?_
 refine nq ?_
 refine oM hF 1 rfl rfl fun a hF=>?_
 refine oM hF 3 rfl rfl fun a hF=>?_
 refine S.call2 st hF (rk G3 (aC (hF.at 1 rfl) (hF.at 0 rfl))) (pe _ _ N M _ (h1.below st.bel) (h2.below st.bel)) (fun _ _ h=>h) Dg.cl Dg.cl rfl rfl rfl rfl fun vv2 vv3 w1 a st hF=>?_
 obtain⟨ad6,n6,c6,rfl⟩:=Dg.form (st.f 0 rfl)
 obtain⟨ad7,n7,c7,rfl⟩:=Dg.form (st.f 1 rfl)
 refine oM hF 0 rfl rfl fun a hF=>?_
 refine oV hF (aW (v:= .slice ad6 n6 c6) (hF.at 0 rfl) rfl) rfl fun a hF=>?_
 refine oV hF (aW (v:= .slice ad7 n7 c7) (hF.at 1 rfl) rfl) rfl fun a hF=>?_
 refine oA hF 1 rfl rfl fun a hF=>?_
 refine oA hF 1 rfl rfl fun a hF=>?_
 refine nq ?_
 refine oM hF 1 rfl rfl fun a hF=>?_
 refine oE hF 0 rfl rfl fun a hF=>?_
 refine nr ?_
 have bel:=st.bel
 refine rt Tryz.results118 hF 0 rfl ?_
 have hh4:=(st.f 0 rfl)
 exact⟨_,rfl,hh4,bel⟩
theorem ju (v1 v2:Value) (z:Int) (N j k:Nat) (w:World) (h1:Wz w v1 z) (h2:Nt w v2 N) (l1:Lim z.natAbs j) (l2:Lim N k) (hj:j≤1000000) (hk:k≤1000000):
 Calls Tryz.prog 93 #[v1,v2] w (fa w (z*(N:Int))):=by
 obtain⟨neg1,ad1,n1,c1,N1,rfl,hN1,rfl⟩:=h1.shape
 have h1:Wz w (.agg #[.bool neg1,.slice ad1 n1 c1]) (sg neg1 N1):=⟨_,_,_,rfl,hN1,rfl⟩
 obtain⟨ad2,n2,c2,rfl⟩:=h2.form
 have st:=St.start w
 refine go2 (nt:=9) Tryz.func93 rfl rfl rfl fun a hF=>?_
 refine wq ?_
 refine bx st hF 0 rfl rfl fun g2 w1 a st hF=>?_
 refine S.alloc st hF cA rfl rfl fun g4 w2 a st hF=>?_
 refine nq ?_
 refine oL hF st 1 1 cA rfl rfl rfl rfl fun a hF=>?_
 refine oM hF 4 rfl rfl fun a hF=>?_
 refine oV hF (bh (fk (hF.at 0 rfl)) (rP _ _ _ _)) rfl fun a hF=>?_
 refine ca st hF (rk HH (aC (hF.at 2 rfl) (hF.at 0 rfl))) (zY _ _ _ _ j k _ (h1.below st.bel) (Wz.mk (h2.below st.bel)) l1 (eU _ l2) (by omega) (by omega)) (fun _ _ h=>h) Wc.cl rfl fun vv4 w3 a st hF=>?_
 obtain⟨ad6,n6,c6,rfl,_⟩:=Wc.shape (st.f 0 rfl)
 refine so st hF 0 4 0 cA rfl rfl rfl rfl fun w7 a st hF=>?_
 have hf8:=Wc.abs (st.f 0 rfl)
 replace st:=st.add hf8 (Dg.cl _)
 clear hf8
 refine nr ?_
 refine rs Tryz.results93 st hF 4 0 cA rfl rfl rfl ?_
 have bel:=st.bel
 have hh5:=(st.f 1 rfl)
 exact⟨_,rfl,hh5,bel⟩
theorem cZ (v1:Value) (q1:Rat) (w:World) (h1:Rq w v1 q1):
 Calls Tryz.prog 94 #[v1] w (jh w (q1.den)):=by
 obtain⟨b1,ad1,n1,c1,ae1,m1,d1,rfl,hn1,hd1⟩:=h1.shape
 have h1:Rq w (.agg #[.bool b1,.slice ad1 n1 c1,.slice ae1 m1 d1]) q1:=⟨_,_,_,_,_,_,_,rfl,hn1,hd1⟩
 have ha1:=hn1.abs
 have hb1:=hn1.neg
 by_cases h0:q1=0
 ·subst h0
  rw[uN] at hd1
  have hm:=hd1.len0
  clear h1
  have st:=St.start w
  refine go1 (nt:=10) Tryz.func94 rfl rfl rfl fun a hF=>?_
  refine wq ?_
  refine bx st hF 0 rfl rfl fun g1 w1 a st hF=>?_
  refine oC hF rfl fun a hF=>?_
  refine ns ?_
  refine wq ?_
  refine oV hF (aA (hF.at 1 rfl) (f6 (p:=2) rfl)) rfl fun a hF=>?_
  refine oV hF (av (hF.at 0 rfl) (cK (v:= .slice ae1 m1 d1) (st.b 0 rfl rfl) rfl)) rfl fun a hF=>?_
  refine oV hF (cr (aI (hF.at 0 rfl)) yx) rfl fun a hF=>?_
  refine oV hF (aq (hF.at 0 rfl) ao ab (aw (aX (c:=true) (eq0 (by rw[hm];rfl))) (by simp))) rfl fun a hF=>?_
  refine E.nil ?_
  refine wp_cond_true (hF.at 0 rfl) ?_
  refine wq ?_
  refine ca st hF (rk BK (aI ao)) (k7 1 _ (by decide)) (fun _ _ h=>h) Dg.cl rfl fun vv3 w2 a st hF=>?_
  obtain⟨ad5,n5,c5,rfl⟩:=Dg.form (st.f 0 rfl)
  refine oE hF 0 rfl rfl fun a hF=>?_
  refine nr ?_
  have bel:=st.bel
  refine rt Tryz.results94 hF 0 rfl ?_
  have hh4:=(st.f 0 rfl)
  exact⟨_,rfl,hh4,bel⟩
 ·rw[nC h0] at hd1
  have hm:=hd1.lenp aL (Rat.den_pos q1)
  clear h1
  have st:=St.start w
  refine go1 (nt:=10) Tryz.func94 rfl rfl rfl fun a hF=>?_
  refine wq ?_
  refine bx st hF 0 rfl rfl fun g1 w1 a st hF=>?_
  refine oC hF rfl fun a hF=>?_
  refine ns ?_
  refine wq ?_
  refine oV hF (aA (hF.at 1 rfl) (f6 (p:=2) rfl)) rfl fun a hF=>?_
  refine oV hF (av (hF.at 0 rfl) (cK (v:= .slice ae1 m1 d1) (st.b 0 rfl rfl) rfl)) rfl fun a hF=>?_
  refine oV hF (cr (aI (hF.at 0 rfl)) yx) rfl fun a hF=>?_
  refine oV hF (aq (hF.at 0 rfl) ao ab (aw (aX (c:=false) (jk (by omega))) (by simp))) rfl fun a hF=>?_
  refine E.nil ?_
  refine wp_cond_false (hF.at 0 rfl) ?_
  refine wp_skip ?_
  refine E.norm ?_
  refine wq ?_
  refine oV hF (aA (hF.at 5 rfl) (f6 (p:=2) rfl)) rfl fun a hF=>?_
  refine oV hF (av (hF.at 0 rfl) (cK (v:= .slice ae1 m1 d1) (st.b 0 rfl rfl) rfl)) rfl fun a hF=>?_
  refine oE hF 0 rfl rfl fun a hF=>?_
  refine nr ?_
  have bel:=st.bel
  refine rt Tryz.results94 hF 0 rfl ?_
  have hd1:=(hd1.below st.bel)
  exact⟨_,rfl,hd1,bel⟩
theorem Rz0 {q:Rat} (h:q=0) (w:World):Rq w (.agg #[.bool false,.slice none 0 0,.slice none 0 0]) q:=by subst h;exact Rq.zero w
theorem kF (b:Bool) (s v2:Value) (N D:Nat) (q:Rat) (w:World) (h1:Dg w .u32 B32 s N) (h2:Dg w .u32 B32 v2 D) (hz:sg b N=q.num) (hd:N≠0→D=q.den):
 Calls Tryz.prog 106 #[.agg #[.bool b,s],v2] w (bl w q):=by
 obtain⟨ad1,n1,c1,rfl⟩:=h1.form
 obtain⟨ae1,m1,d1,rfl⟩:=h2.form
 have hg:Wg w (.agg #[.bool b,.slice ad1 n1 c1]) b N:=Wg.mk h1
 by_cases h0:N=0
 ·have hq:q=0:=Rat.num_eq_zero.1 (by rw[←hz,h0,eF])
  have st:=St.start w
  refine go2 (nt:=12) Tryz.func106 rfl rfl rfl fun a hF=>?_
  refine wq ?_
  refine bx st hF 0 rfl rfl fun g2 w1 a st hF=>?_
  refine S.alloc st hF ah rfl rfl fun g4 w2 a st hF=>?_
  refine ns ?_
  refine wq ?_
  refine oL hF st 1 1 cA rfl rfl rfl rfl fun a hF=>?_
  refine cX st hF (rk pM (aI (hF.at 0 rfl))) (dR _ _ _ (Wg.wz (hg.below st.bel))) rfl fun w3 a st hF=>?_
  refine oV hF (aq (hF.at 0 rfl) ao ab (aw (aX (c:=true) (eq0 (yU h0))) (by simp))) rfl fun a hF=>?_
  refine E.nil ?_
  refine wp_cond_true (hF.at 0 rfl) ?_
  refine wq ?_
  refine oV hF (bh (by simp) (iC _)) rfl fun a hF=>?_
  refine so st hF 0 4 0 ah rfl rfl rfl rfl fun w4 a st hF=>?_
  refine nr ?_
  refine rs Tryz.results106 st hF 4 0 ah rfl rfl rfl ?_
  have bel:=st.bel
  exact⟨_,rfl,Rz0 hq _,bel⟩
 ·have st:=St.start w
  refine go2 (nt:=12) Tryz.func106 rfl rfl rfl fun a hF=>?_
  refine wq ?_
  refine bx st hF 0 rfl rfl fun g2 w1 a st hF=>?_
  refine S.alloc st hF ah rfl rfl fun g4 w2 a st hF=>?_
  refine ns ?_
  refine wq ?_
  refine oL hF st 1 1 cA rfl rfl rfl rfl fun a hF=>?_
  refine cX st hF (rk pM (aI (hF.at 0 rfl))) (dR _ _ _ (Wg.wz (hg.below st.bel))) rfl fun w3 a st hF=>?_
  refine oV hF (aq (hF.at 0 rfl) ao ab (aw (aX (c:=false) (jk (zi h0))) (by simp))) rfl fun a hF=>?_
  refine E.nil ?_
  refine wp_cond_false (hF.at 0 rfl) ?_
  refine wp_skip ?_
  refine E.norm ?_
  refine wq ?_
  refine oL hF st 4 1 cA rfl rfl rfl rfl fun a hF=>?_
  refine oM hF 7 rfl rfl fun a hF=>?_
  refine oV hF (bh (eL (hF.at 1 rfl) (hF.at 0 rfl)) (qU _ _ _ _ _ _ _ _)) rfl fun a hF=>?_
  refine so st hF 0 6 0 ah rfl rfl rfl rfl fun w4 a st hF=>?_
  refine nr ?_
  refine rs Tryz.results106 st hF 6 0 ah rfl rfl rfl ?_
  have bel:=st.bel
  have h1:=(h1.below st.bel)
  have h2:=(h2.below st.bel)
  exact⟨_,rfl,Rq.mk h1 h2 h0 hz (hd h0),bel⟩
theorem BV (v1 v2:Value) (b:Bool) (N D:Nat) (q:Rat) (w:World) (h1:Wg w v1 b N) (h2:Dg w .u32 B32 v2 D) (hz:sg b N=q.num) (hd:N≠0→D=q.den):Calls Tryz.prog 106 #[v1,v2] w (bl w q):=by
 obtain⟨s,rfl,h⟩:=h1
 exact kF b s v2 N D q w h h2 hz hd
theorem om (v1 v2:Value) (z:Int) (D:Nat) (q:Rat) (w:World) (h1:Wc w v1 z) (h2:Dg w .u32 B32 v2 D) (hz:z=q.num) (hd:z≠0→D=q.den):Calls Tryz.prog 106 #[v1,v2] w (bl w q):=by
 obtain⟨s,rfl,h⟩:=h1
 exact kF _ s v2 z.natAbs D q w h h2 ((k5 z).trans hz) (fun hn=>hd (by omega))
theorem eO (v1:Value) (q1:Rat) (w:World) (h1:Rq w v1 q1):
 Calls Tryz.prog 141 #[v1] w (gN w (sz q1.num)):=by
 obtain⟨b1,ad1,n1,c1,ae1,m1,d1,rfl,hn1,hd1⟩:=h1.shape
 have h1:Rq w (.agg #[.bool b1,.slice ad1 n1 c1,.slice ae1 m1 d1]) q1:=⟨_,_,_,_,_,_,_,rfl,hn1,hd1⟩
 have ha1:=hn1.abs
 have hb1:=hn1.neg
 have st:=St.start w
 refine go1 (nt:=6) Tryz.func141 rfl rfl rfl fun a hF=>?_
 refine wq ?_
 refine bx st hF 0 rfl rfl fun g1 w1 a st hF=>?_
 refine oC hF rfl fun a hF=>?_
 refine nq ?_
 refine oV hF (aA (hF.at 1 rfl) (ch (p:=0) rfl)) rfl fun a hF=>?_
 refine oV hF (av (hF.at 0 rfl) (ff (vs:=[.bool b1,.slice ad1 n1 c1]) (st.b 0 rfl rfl) rfl rfl)) rfl fun a hF=>?_
 refine cX st hF (rk pM (aI (hF.at 0 rfl))) (dR _ _ _ (Wc.wz (hn1.below st.bel))) rfl fun w2 a st hF=>?_
 refine oE hF 0 rfl rfl fun a hF=>?_
 refine nr ?_
 have bel:=st.bel
 refine rt Tryz.results141 hF 0 rfl ?_
 exact⟨rfl,bel⟩
theorem sO (v1:Value) (q1:Rat) (w:World) (h1:Rq w v1 q1):
 Calls Tryz.prog 65 #[v1] w (fa w (q1.num)):=by
 obtain⟨b1,ad1,n1,c1,ae1,m1,d1,rfl,hn1,hd1⟩:=h1.shape
 have h1:Rq w (.agg #[.bool b1,.slice ad1 n1 c1,.slice ae1 m1 d1]) q1:=⟨_,_,_,_,_,_,_,rfl,hn1,hd1⟩
 have ha1:=hn1.abs
 have hb1:=hn1.neg
 have ES:=Lib.hid (show sg b1 (Int.natAbs (Rat.num q1))=q1.num by rw[hb1,k5])
 have st:=St.start w
 refine go1 (nt:=10) Tryz.func65 rfl rfl rfl fun a hF=>?_
 refine wq ?_
 refine bx st hF 0 rfl rfl fun g1 w1 a st hF=>?_
 refine S.alloc st hF cA rfl rfl fun g2 w2 a st hF=>?_
 refine nq ?_
 refine oV hF (aA (hF.at 1 rfl) (ch (p:=0) rfl)) rfl fun a hF=>?_
 refine oV hF (aA (hF.at 0 rfl) (gK (p:=0) rfl)) rfl fun a hF=>?_
 refine oV hF (av (hF.at 0 rfl) (dP (v:= .bool b1) (st.b 1 rfl rfl) rfl)) rfl fun a hF=>?_
 refine oV hF (aA (hF.at 4 rfl) (ch (p:=0) rfl)) rfl fun a hF=>?_
 refine oV hF (aA (hF.at 0 rfl) (cU (p:=1) rfl)) rfl fun a hF=>?_
 refine oV hF (av (hF.at 0 rfl) (cK (v:= .slice ad1 n1 c1) (st.b 1 rfl rfl) rfl)) rfl fun a hF=>?_
 refine ca st hF (rk CQ (aC (hF.at 3 rfl) (hF.at 0 rfl))) (n0 _ _ (Int.natAbs (Rat.num (q1))) _ (Dg.nt (ha1.below st.bel))) (fun _ _ h=>h) Wc.cl rfl fun vv4 w3 a st hF=>?_
 obtain⟨ad6,n6,c6,rfl,_⟩:=Wc.shape (st.f 0 rfl)
 refine so st hF 0 7 0 cA rfl rfl rfl rfl fun w7 a st hF=>?_
 have hf8:=Wc.abs (st.f 0 rfl)
 replace st:=st.add hf8 (Dg.cl _)
 clear hf8
 refine nr ?_
 refine rs Tryz.results65 st hF 7 0 cA rfl rfl rfl ?_
 have bel:=st.bel
 have hh5:=(st.f 1 rfl)
 exact⟨_,rfl,Wc.cast hh5 ES.out,bel⟩
theorem lT (v1:Value) (q1:Rat) (w:World) (h1:Rq w v1 q1):
 Calls Tryz.prog 66 #[v1] w (jh w (q1.den)):=by
 obtain⟨r1,rfl⟩:=h1.fo
 have st:=St.start w
 refine go1 (nt:=6) Tryz.func66 rfl rfl rfl fun a hF=>?_
 refine wq ?_
 refine bx st hF 0 rfl rfl fun g1 w1 a st hF=>?_
 refine oC hF rfl fun a hF=>?_
 refine nq ?_
 refine oL hF st 1 0 ah rfl rfl rfl rfl fun a hF=>?_
 refine ca st hF (rk ji (aI (hF.at 0 rfl))) (cZ _ (q1) _ (h1.below st.bel)) (fun _ _ h=>h) Dg.cl rfl fun vv3 w2 a st hF=>?_
 obtain⟨ad5,n5,c5,rfl⟩:=Dg.form (st.f 0 rfl)
 refine ca st hF (rk GN (aI (hF.at 0 rfl))) (uJ _ (Rat.den (q1)) _ (Dg.nt (st.f 0 rfl))) (fun _ _ h=>h) Dg.cl rfl fun vv7 w6 a st hF=>?_
 obtain⟨ad9,n9,c9,rfl⟩:=Dg.form (st.f 0 rfl)
 refine oE hF 0 rfl rfl fun a hF=>?_
 refine nr ?_
 have bel:=st.bel
 refine rt Tryz.results66 hF 0 rfl ?_
 have hh8:=(st.f 0 rfl)
 exact⟨_,rfl,hh8,bel⟩
theorem vB (v1 v2:Value) (z1 z2:Int) (w:World) (h1:Wz w v1 z1) (h2:Wz w v2 z2):
 Calls Tryz.prog 100 #[v1,v2] w (bl w ((z1:Rat)/(z2:Rat))):=by
 obtain⟨neg1,ad1,n1,c1,N1,rfl,hN1,rfl⟩:=h1.shape
 have h1:Wz w (.agg #[.bool neg1,.slice ad1 n1 c1]) (sg neg1 N1):=⟨_,_,_,rfl,hN1,rfl⟩
 obtain⟨neg2,ad2,n2,c2,N2,rfl,hN2,rfl⟩:=h2.shape
 have h2:Wz w (.agg #[.bool neg2,.slice ad2 n2 c2]) (sg neg2 N2):=⟨_,_,_,rfl,hN2,rfl⟩
 by_cases h0:N2=0
 ·have hq:(sg neg1 N1:Rat)/(sg neg2 N2:Rat)=0:=by rw[h0,eF,Rat.intCast_zero,Rat.div_def,Rat.inv_zero,Rat.mul_zero]
  have st:=St.start w
  refine go2 (nt:=30) Tryz.func100 rfl rfl rfl fun a hF=>?_
  refine wq ?_
  refine bx st hF 0 rfl rfl fun g2 w1 a st hF=>?_
  refine bx st hF 2 rfl rfl fun g3 w2 a st hF=>?_
  refine S.alloc st hF ah rfl rfl fun g4 w3 a st hF=>?_
  refine ns ?_
  refine wq ?_
  refine oL hF st 1 1 cA rfl rfl rfl rfl fun a hF=>?_
  refine cX st hF (rk pM (aI (hF.at 0 rfl))) (dR _ _ _ (h2.below st.bel)) rfl fun w4 a st hF=>?_
  refine oV hF (aq (hF.at 0 rfl) ao ab (aw (aX (c:=true) (eq0 (yU h0))) (by simp))) rfl fun a hF=>?_
  refine E.nil ?_
  refine wp_cond_true (hF.at 0 rfl) ?_
  refine wq ?_
  refine oV hF (bh (by simp) (iC _)) rfl fun a hF=>?_
  refine so st hF 0 4 0 ah rfl rfl rfl rfl fun w5 a st hF=>?_
  refine nr ?_
  refine rs Tryz.results100 st hF 4 0 ah rfl rfl rfl ?_
  have bel:=st.bel
  exact⟨_,rfl,Rz0 hq _,bel⟩
 ·have HP:=Lib.hid (zU neg1 neg2 N1 N2 h0)
  have st:=St.start w
  refine go2 (nt:=30) Tryz.func100 rfl rfl rfl fun a hF=>?_
  refine wq ?_
  refine bx st hF 0 rfl rfl fun g2 w1 a st hF=>?_
  refine bx st hF 2 rfl rfl fun g3 w2 a st hF=>?_
  refine S.alloc st hF ah rfl rfl fun g4 w3 a st hF=>?_
  refine ns ?_
  refine wq ?_
  refine oL hF st 1 1 cA rfl rfl rfl rfl fun a hF=>?_
  refine cX st hF (rk pM (aI (hF.at 0 rfl))) (dR _ _ _ (h2.below st.bel)) rfl fun w4 a st hF=>?_
  refine oV hF (aq (hF.at 0 rfl) ao ab (aw (aX (c:=false) (jk (zi h0))) (by simp))) rfl fun a hF=>?_
  refine E.nil ?_
  refine wp_cond_false (hF.at 0 rfl) ?_
  refine wp_skip ?_
  refine E.norm ?_
  refine wq ?_
  refine oV hF (aA (hF.at 5 rfl) (cU (p:=1) rfl)) rfl fun a hF=>?_
  refine oV hF (av (hF.at 0 rfl) (cK (v:= .slice ad1 n1 c1) (st.b 2 rfl rfl) rfl)) rfl fun a hF=>?_
  refine oV hF (aA (hF.at 6 rfl) (cU (p:=1) rfl)) rfl fun a hF=>?_
  refine oV hF (av (hF.at 0 rfl) (cK (v:= .slice ad2 n2 c2) (st.b 1 rfl rfl) rfl)) rfl fun a hF=>?_
  refine ca st hF (rk pS (aC (hF.at 2 rfl) (hF.at 0 rfl))) (jF _ _ N1 N2 _ (hN1.below st.bel) (hN2.below st.bel)) (fun _ _ h=>h) Dg.cl rfl fun vv6 w5 a st hF=>?_
  obtain⟨ad8,n8,c8,rfl⟩:=Dg.form (st.f 0 rfl)
  refine oA hF 0 rfl rfl fun a hF=>?_
  refine ns ?_
  refine E.drawn 15 aF hF [15,16,17,18,19,20,21,22,23,24,25,26,27,28,29] [(fun _ v=>v= .pointer (some ⟨g2,0,none⟩)),(fun _ v=>v= .bool neg1),(fun _ v=>v= .pointer (some ⟨g3,0,none⟩)),(fun _ v=>v= .bool neg2),(fun _ v=>v= .bool (neg1 !=neg2)),(fun _ v=>v= .pointer (some ⟨g2,1,none⟩)),(fun _ v=>v= .slice ad1 n1 c1),(fun _ v=>v= .slice ad8 n8 c8),(fun w v=>Dg w .u32 B32 v ((N1)/(Nat.gcd (N1) (N2)))),(fun w v=>Wg w v (neg1 !=neg2) ((N1)/(Nat.gcd (N1) (N2)))),(fun _ v=>v= .pointer (some ⟨g3,1,none⟩)),(fun _ v=>v= .slice ad2 n2 c2),(fun _ v=>v= .slice ad8 n8 c8),(fun w v=>Dg w .u32 B32 v ((N2)/(Nat.gcd (N1) (N2)))),(fun w v=>Rq w v ((sg neg1 N1:Rat)/(sg neg2 N2:Rat)))] [] (by decide+kernel) (by decide+kernel) rfl rfl rfl ⟨(Mb.eq _),(Mb.eq _),(Mb.eq _),(Mb.eq _),(Mb.eq _),(Mb.eq _),(Mb.eq _),(Mb.eq _),(fun _ _ _ h hb=>h.below hb),(fun _ _ _ h hb=>h.below hb),(Mb.eq _),(Mb.eq _),(Mb.eq _),(fun _ _ _ h hb=>h.below hb),(fun _ _ _ h hb=>h.below hb),trivial⟩ trivial ⟨?_,?_,?_,?_,?_,?_,?_,?_,?_,?_,?_,?_,?_,?_,?_,trivial⟩ ?_
  ·intro a' w' hF' hb hd
   exact dv0 (aA (hF'.at 11 rfl) (gK (p:=0) rfl)) rfl rfl rfl
  ·intro a' w' hF' hb hd
   have e15:=tE hd 0 rfl
   exact dv0 (av e15 (dP (v:= .bool neg1) ((st.b 2 rfl rfl).below hb) rfl)) rfl rfl rfl
  ·intro a' w' hF' hb hd
   exact dv0 (aA (hF'.at 10 rfl) (gK (p:=0) rfl)) rfl rfl rfl
  ·intro a' w' hF' hb hd
   have e17:=tE hd 0 rfl
   exact dv0 (av e17 (dP (v:= .bool neg2) ((st.b 1 rfl rfl).below hb) rfl)) rfl rfl rfl
  ·intro a' w' hF' hb hd
   have e16:=tE hd 0 rfl
   have e18:=tE hd 1 rfl
   exact dv0 (aq e16 e18 lr (mB (d:=(neg1 !=neg2)) rfl)) rfl rfl rfl
  ·intro a' w' hF' hb hd
   exact dv0 (aA (hF'.at 11 rfl) (cU (p:=1) rfl)) rfl rfl rfl
  ·intro a' w' hF' hb hd
   have e20:=tE hd 0 rfl
   exact dv0 (av e20 (cK (v:= .slice ad1 n1 c1) ((st.b 2 rfl rfl).below hb) rfl)) rfl rfl rfl
  ·exact qM 0 rfl rfl rfl
  ·intro a' w' hF' hb hd
   have e21:=tE hd 0 rfl
   have e22:=tE hd 1 rfl
   exact dc0 (rk iU (aC e21 e22)) (fD _ _ N1 (Nat.gcd (N1) (N2)) _ (hN1.below (ar st.bel hb)) (Dg.nt ((st.f 0 rfl).below hb))) rfl rfl
  ·intro a' w' hF' hb hd
   have e19:=tE hd 0 rfl
   obtain⟨v23_0,e23,h23_1⟩:=tH hd 1 rfl
   obtain⟨ad9,n9,c9,rfl⟩:=Dg.form h23_1
   exact dv0 (bh (eL e19 e23) (mL _ _ _ _ _)) (Wg.mk h23_1) rfl rfl
  ·intro a' w' hF' hb hd
   exact dv0 (aA (hF'.at 10 rfl) (cU (p:=1) rfl)) rfl rfl rfl
  ·intro a' w' hF' hb hd
   have e25:=tE hd 0 rfl
   exact dv0 (av e25 (cK (v:= .slice ad2 n2 c2) ((st.b 1 rfl rfl).below hb) rfl)) rfl rfl rfl
  ·exact qM 0 rfl rfl rfl
  ·intro a' w' hF' hb hd
   have e26:=tE hd 0 rfl
   have e27:=tE hd 1 rfl
   exact dc0 (rk iU (aC e26 e27)) (fD _ _ N2 (Nat.gcd (N1) (N2)) _ (hN2.below (ar st.bel hb)) (Dg.nt ((st.f 0 rfl).below hb))) rfl rfl
  ·intro a' w' hF' hb hd
   obtain⟨v24,e24,h24⟩:=tH hd 0 rfl
   obtain⟨v28_0,e28,h28_1⟩:=tH hd 1 rfl
   exact dc0 (rk nh (aC e24 e28)) (BV _ _ ((neg1 !=neg2)) ((N1)/(Nat.gcd (N1) (N2))) ((N2)/(Nat.gcd (N1) (N2))) ((sg neg1 N1:Rat)/(sg neg2 N2:Rat)) _ h24 h28_1 HP.out.1 HP.out.2) rfl rfl
  intro a w10 hF bb hall hne
  replace st:=st.to bb
  obtain⟨vv11,hF,st⟩:=aS hall hF st 14 rfl rfl Rq.cl
  clear hall hne bb
  obtain⟨r13,rfl⟩:=Rq.fo (st.f 0 rfl)
  refine so st hF 0 10 0 ah rfl rfl rfl rfl fun w14 a st hF=>?_
  refine nr ?_
  refine rs Tryz.results100 st hF 10 0 ah rfl rfl rfl ?_
  have bel:=st.bel
  have hh12:=(st.f 0 rfl)
  exact⟨_,rfl,hh12,bel⟩
end
section
def qc (a b:Rat):Int:=ci (a.num*(b.den:Int)) (b.num*(a.den:Int))
theorem az {n:Int} (h0: -9223372036854775808≤n) (h1:n≤9223372036854775807):Lim n.natAbs 2:=Lim.of64 (by omega)
theorem aJ {z y:Int} {a b:Nat} (h1:Lim z.natAbs a) (h2:Lim y.natAbs b):au ((z:Rat)/(y:Rat)) (max 1 (max a b)):=by
 rw[Rat.div_def]
 by_cases h0:y=0
 ·subst h0;rw[Rat.intCast_zero,Rat.inv_zero,Rat.mul_zero];exact jg (by omega)
 ·have e:(z:Rat)*(y:Rat)⁻¹ =mkRat (z*y.sign) y.natAbs:=by
   rw[←Rat.div_def,←Rat.divInt_eq_div]
   rcases Int.lt_or_gt_of_ne h0 with h|h
   ·obtain⟨m,rfl⟩:∃m:Nat,y= -(m:Int):=⟨y.natAbs,by omega⟩
    rw[Rat.divInt_neg',Rat.divInt_ofNat,Int.sign_eq_neg_one_of_neg h,Int.natAbs_neg,Int.natAbs_natCast,Int.mul_neg,Int.mul_one]
   ·obtain⟨m,rfl⟩:∃m:Nat,y=(m:Int):=⟨y.natAbs,by omega⟩
    rw[Rat.divInt_ofNat,Int.sign_eq_one_of_pos h,Int.natAbs_natCast,Int.mul_one]
  rw[e]
  refine lw ((h1.le ?_).up _ (by omega)) (h2.up _ (by omega)) (by omega)
  rw[Int.natAbs_mul]
  have:y.sign.natAbs≤1:=by rcases Int.lt_or_gt_of_ne h0 with h|h
                           ·rw[Int.sign_eq_neg_one_of_neg h];decide
                           ·rw[Int.sign_eq_one_of_pos h];decide
  exact Nat.le_trans (Nat.mul_le_mul_left _ this) (by omega)
theorem xJ (q:Rat):sg false q.num.natAbs=q.abs.num∧q.den=q.abs.den:=by
 unfold Rat.abs
 split
 ·rename_i h
  have:=Rat.num_nonneg.2 h
  exact⟨by rw[cN];omega,rfl⟩
 ·rename_i h
  have:¬0≤q.num:=fun h'=>h (Rat.num_nonneg.1 h')
  exact⟨by rw[cN,Rat.neg_num];omega,rfl⟩
theorem oh (v1:Value) (q1:Rat) (w:World) (h1:Rq w v1 q1):
 Calls Tryz.prog 121 #[v1] w (bl w (-q1)):=by
 obtain⟨b1,ad1,n1,c1,ae1,m1,d1,rfl,hn1,hd1⟩:=h1.shape
 have h1:Rq w (.agg #[.bool b1,.slice ad1 n1 c1,.slice ae1 m1 d1]) q1:=⟨_,_,_,_,_,_,_,rfl,hn1,hd1⟩
 have ha1:=hn1.abs
 have hb1:=hn1.neg
 have st:=St.start w
 refine go1 (nt:=9) Tryz.func121 rfl rfl rfl fun a hF=>?_
 refine wq ?_
 refine bx st hF 0 rfl rfl fun g1 w1 a st hF=>?_
 refine S.alloc st hF ah rfl rfl fun g2 w2 a st hF=>?_
 refine ns ?_
 refine E.drawn 6 aF hF [3,4,5,6,7,8] [(fun _ v=>v= .pointer (some ⟨g1,0,none⟩)),(fun _ v=>v= .agg #[.bool b1,.slice ad1 n1 c1]),(fun w v=>Wc w v (-(Rat.num (q1)))),(fun _ v=>v= .agg #[.bool b1,.slice ad1 n1 c1,.slice ae1 m1 d1]),(fun w v=>Dg w .u32 B32 v (Rat.den (q1))),(fun w v=>Rq w v (-q1))] [] (by decide+kernel) (by decide+kernel) rfl rfl rfl ⟨(Mb.eq _),(Mb.eq _),(fun _ _ _ h hb=>h.below hb),(Mb.eq _),(fun _ _ _ h hb=>h.below hb),(fun _ _ _ h hb=>h.below hb),trivial⟩ trivial ⟨?_,?_,?_,?_,?_,?_,trivial⟩ ?_
 ·intro a' w' hF' hb hd
  exact dv0 (aA (hF'.at 1 rfl) (ch (p:=0) rfl)) rfl rfl rfl
 ·intro a' w' hF' hb hd
  have e3:=tE hd 0 rfl
  exact dv0 (av e3 (ff (vs:=[.bool b1,.slice ad1 n1 c1]) ((st.b 1 rfl rfl).below hb) rfl rfl)) rfl rfl rfl
 ·intro a' w' hF' hb hd
  have e4:=tE hd 0 rfl
  exact dc0 (rk Ig (aI e4)) (zk _ _ _ (Wc.wz (hn1.below (ar st.bel hb)))) rfl rfl
 ·exact qL st 1 1 ah rfl rfl rfl rfl rfl
 ·intro a' w' hF' hb hd
  have e6:=tE hd 0 rfl
  exact dc0 (rk vQ (aI e6)) (lT _ (q1) _ (h1.below (ar st.bel hb))) rfl rfl
 ·intro a' w' hF' hb hd
  obtain⟨v5_0,e5,h5_1⟩:=tH hd 0 rfl
  obtain⟨v7_0,e7,h7_1⟩:=tH hd 1 rfl
  exact dc0 (rk nh (aC e5 e7)) (om _ _ (-(Rat.num (q1))) (Rat.den (q1)) (-q1) _ h5_1 h7_1 rfl (fun _=>rfl)) rfl rfl
 intro a w3 hF bb hall hne
 replace st:=st.to bb
 obtain⟨vv4,hF,st⟩:=aS hall hF st 5 rfl rfl Rq.cl
 clear hall hne bb
 obtain⟨r6,rfl⟩:=Rq.fo (st.f 0 rfl)
 refine so st hF 0 1 0 ah rfl rfl rfl rfl fun w7 a st hF=>?_
 refine nr ?_
 refine rs Tryz.results121 st hF 1 0 ah rfl rfl rfl ?_
 have bel:=st.bel
 have hh5:=(st.f 0 rfl)
 exact⟨_,rfl,hh5,bel⟩
theorem Aj (v1:Value) (q1:Rat) (w:World) (h1:Rq w v1 q1):
 Calls Tryz.prog 224 #[v1] w (bl w (Rat.abs q1)):=by
 obtain⟨b1,ad1,n1,c1,ae1,m1,d1,rfl,hn1,hd1⟩:=h1.shape
 have h1:Rq w (.agg #[.bool b1,.slice ad1 n1 c1,.slice ae1 m1 d1]) q1:=⟨_,_,_,_,_,_,_,rfl,hn1,hd1⟩
 have ha1:=hn1.abs
 have hb1:=hn1.neg
 have HP:=Lib.hid (xJ q1)
 have st:=St.start w
 refine go1 (nt:=10) Tryz.func224 rfl rfl rfl fun a hF=>?_
 refine wq ?_
 refine bx st hF 0 rfl rfl fun g1 w1 a st hF=>?_
 refine S.alloc st hF ah rfl rfl fun g2 w2 a st hF=>?_
 refine ns ?_
 refine E.drawn 7 aF hF [3,4,5,6,7,8,9] [(fun _ v=>v= .pointer (some ⟨g1,0,none⟩)),(fun _ v=>v= .pointer (some ⟨g1,1,none⟩)),(fun _ v=>v= .slice ad1 n1 c1),(fun w v=>Wc w v (sg false (Int.natAbs (Rat.num (q1))))),(fun _ v=>v= .agg #[.bool b1,.slice ad1 n1 c1,.slice ae1 m1 d1]),(fun w v=>Dg w .u32 B32 v (Rat.den (q1))),(fun w v=>Rq w v (Rat.abs q1))] [] (by decide+kernel) (by decide+kernel) rfl rfl rfl ⟨(Mb.eq _),(Mb.eq _),(Mb.eq _),(fun _ _ _ h hb=>h.below hb),(Mb.eq _),(fun _ _ _ h hb=>h.below hb),(fun _ _ _ h hb=>h.below hb),trivial⟩ trivial ⟨?_,?_,?_,?_,?_,?_,?_,trivial⟩ ?_
 ·intro a' w' hF' hb hd
  exact dv0 (aA (hF'.at 1 rfl) (ch (p:=0) rfl)) rfl rfl rfl
 ·intro a' w' hF' hb hd
  have e3:=tE hd 0 rfl
  exact dv0 (aA e3 (cU (p:=1) rfl)) rfl rfl rfl
 ·intro a' w' hF' hb hd
  have e4:=tE hd 0 rfl
  exact dv0 (av e4 (cK (v:= .slice ad1 n1 c1) ((st.b 1 rfl rfl).below hb) rfl)) rfl rfl rfl
 ·intro a' w' hF' hb hd
  have e5:=tE hd 0 rfl
  exact dc0 (rk CQ (aC ao e5)) (n0 _ _ (Int.natAbs (Rat.num (q1))) _ (Dg.nt (ha1.below (ar st.bel hb)))) rfl rfl
 ·exact qL st 1 1 ah rfl rfl rfl rfl rfl
 ·intro a' w' hF' hb hd
  have e7:=tE hd 0 rfl
  exact dc0 (rk vQ (aI e7)) (lT _ (q1) _ (h1.below (ar st.bel hb))) rfl rfl
 ·intro a' w' hF' hb hd
  obtain⟨v6_0,e6,h6_1⟩:=tH hd 0 rfl
  obtain⟨v8_0,e8,h8_1⟩:=tH hd 1 rfl
  exact dc0 (rk nh (aC e6 e8)) (om _ _ (sg false (Int.natAbs (Rat.num (q1)))) (Rat.den (q1)) (Rat.abs q1) _ h6_1 h8_1 HP.out.1 (fun _=>HP.out.2)) rfl rfl
 intro a w3 hF bb hall hne
 replace st:=st.to bb
 obtain⟨vv4,hF,st⟩:=aS hall hF st 6 rfl rfl Rq.cl
 clear hall hne bb
 obtain⟨r6,rfl⟩:=Rq.fo (st.f 0 rfl)
 refine so st hF 0 1 0 ah rfl rfl rfl rfl fun w7 a st hF=>?_
 refine nr ?_
 refine rs Tryz.results224 st hF 1 0 ah rfl rfl rfl ?_
 have bel:=st.bel
 have hh5:=(st.f 0 rfl)
 exact⟨_,rfl,hh5,bel⟩
theorem bw (n d:Int) (w:World) (b1: -9223372036854775808≤n) (b2:n≤9223372036854775807) (b3: -9223372036854775808≤d) (b4:d≤9223372036854775807):
 Calls Tryz.prog 35 #[.int .i64 n,.int .i64 d] w (bl w ((n:Rat)/(d:Rat))):=by
 have st:=St.start w
 refine go2 (nt:=10) Tryz.func35 rfl rfl rfl fun a hF=>?_
 refine wq ?_
 refine S.alloc st hF ah rfl rfl fun g4 w1 a st hF=>?_
 refine nq ?_
 refine oM hF 1 rfl rfl fun a hF=>?_
 refine ca st hF (rk rC (aI (hF.at 0 rfl))) (lL n _ b1 b2) (fun _ _ h=>h) Wc.cl rfl fun vv3 w2 a st hF=>?_
 obtain⟨ad5,n5,c5,rfl,_⟩:=Wc.shape (st.f 0 rfl)
 refine oM hF 4 rfl rfl fun a hF=>?_
 refine ca st hF (rk rC (aI (hF.at 0 rfl))) (lL d _ b3 b4) (fun _ _ h=>h) Wc.cl rfl fun vv7 w6 a st hF=>?_
 obtain⟨ad9,n9,c9,rfl,_⟩:=Wc.shape (st.f 0 rfl)
 refine ca st hF (rk CX (aC (hF.at 2 rfl) (hF.at 0 rfl))) (vB _ _ (n) (d) _ (Wc.wz (st.f 1 rfl)) (Wc.wz (st.f 0 rfl))) (fun _ _ h=>h) Rq.cl rfl fun vv11 w10 a st hF=>?_
 obtain⟨r13,rfl⟩:=Rq.fo (st.f 0 rfl)
 refine so st hF 0 5 0 ah rfl rfl rfl rfl fun w14 a st hF=>?_
 refine nr ?_
 refine rs Tryz.results35 st hF 5 0 ah rfl rfl rfl ?_
 have bel:=st.bel
 have hh12:=(st.f 0 rfl)
 exact⟨_,rfl,hh12,bel⟩
theorem bj (n:Int) (w:World) (b1: -9223372036854775808≤n) (b2:n≤9223372036854775807):
 Calls Tryz.prog 40 #[.int .i64 n] w (bl w (n:Rat)):=by
 have st:=St.start w
 refine go1 (nt:=7) Tryz.func40 rfl rfl rfl fun a hF=>?_
 refine wq ?_
 refine S.alloc st hF ah rfl rfl fun g2 w1 a st hF=>?_
 refine nq ?_
 refine oM hF 1 rfl rfl fun a hF=>?_
 refine ca st hF (rk rC (aI (hF.at 0 rfl))) (lL n _ b1 b2) (fun _ _ h=>h) Wc.cl rfl fun vv3 w2 a st hF=>?_
 obtain⟨ad5,n5,c5,rfl,_⟩:=Wc.shape (st.f 0 rfl)
 refine ca st hF (rk BK (aI ao)) (k7 1 _ (by decide)) (fun _ _ h=>h) Dg.cl rfl fun vv7 w6 a st hF=>?_
 obtain⟨ad9,n9,c9,rfl⟩:=Dg.form (st.f 0 rfl)
 refine ca st hF (rk nh (aC (hF.at 1 rfl) (hF.at 0 rfl))) (om _ _ (n) (1) ((n:Rat)) _ (st.f 1 rfl) (st.f 0 rfl) rfl (fun _=>rfl)) (fun _ _ h=>h) Rq.cl rfl fun vv11 w10 a st hF=>?_
 obtain⟨r13,rfl⟩:=Rq.fo (st.f 0 rfl)
 refine so st hF 0 4 0 ah rfl rfl rfl rfl fun w14 a st hF=>?_
 refine nr ?_
 refine rs Tryz.results40 st hF 4 0 ah rfl rfl rfl ?_
 have bel:=st.bel
 have hh12:=(st.f 0 rfl)
 exact⟨_,rfl,hh12,bel⟩
theorem j7 (v1 v2:Value) (q1 q2:Rat) (k:Nat) (w:World) (h1:Rq w v1 q1) (h2:Rq w v2 q2) (l1:au q1 k) (l2:au q2 k) (hk:k≤100000):
 Calls Tryz.prog 56 #[v1,v2] w (bl w (q1+q2)):=by
 obtain⟨b1,ad1,n1,c1,ae1,m1,d1,rfl,hn1,hd1⟩:=h1.shape
 have h1:Rq w (.agg #[.bool b1,.slice ad1 n1 c1,.slice ae1 m1 d1]) q1:=⟨_,_,_,_,_,_,_,rfl,hn1,hd1⟩
 have ha1:=hn1.abs
 have hb1:=hn1.neg
 obtain⟨b2,ad2,n2,c2,ae2,m2,d2,rfl,hn2,hd2⟩:=h2.shape
 have h2:Rq w (.agg #[.bool b2,.slice ad2 n2 c2,.slice ae2 m2 d2]) q2:=⟨_,_,_,_,_,_,_,rfl,hn2,hd2⟩
 have ha2:=hn2.abs
 have hb2:=hn2.neg
 have HP:=Lib.hid (y8 q1 q2)
 have st:=St.start w
 refine go2 (nt:=47) Tryz.func56 rfl rfl rfl fun a hF=>?_
 refine wq ?_
 refine bx st hF 0 rfl rfl fun g2 w1 a st hF=>?_
 refine bx st hF 2 rfl rfl fun g3 w2 a st hF=>?_
 refine S.alloc st hF ah rfl rfl fun g4 w3 a st hF=>?_
 refine ns ?_
 refine E.drawn 6 aF hF [9,10,11,12,13,5] [(fun _ v=>v= .agg #[.bool b1,.slice ad1 n1 c1,.slice ae1 m1 d1]),(fun w v=>Dg w .u32 B32 v (Rat.den (q1))),(fun _ v=>v= .agg #[.bool b2,.slice ad2 n2 c2,.slice ae2 m2 d2]),(fun w v=>Dg w .u32 B32 v (Rat.den (q2))),(fun w v=>Dg w .u32 B32 v (Nat.gcd (Rat.den (q1)) (Rat.den (q2)))),(fun w v=>Dg w .u32 B32 v (Nat.gcd (Rat.den (q1)) (Rat.den (q2))))] [] (by decide+kernel) (by decide+kernel) rfl rfl rfl ⟨(Mb.eq _),(fun _ _ _ h hb=>h.below hb),(Mb.eq _),(fun _ _ _ h hb=>h.below hb),(fun _ _ _ h hb=>h.below hb),(fun _ _ _ h hb=>h.below hb),trivial⟩ trivial ⟨?_,?_,?_,?_,?_,?_,trivial⟩ ?_
 ·exact qL st 2 2 ah rfl rfl rfl rfl rfl
 ·intro a' w' hF' hb hd
  have e9:=tE hd 0 rfl
  exact dc0 (rk ji (aI e9)) (cZ _ (q1) _ (h1.below (ar st.bel hb))) rfl rfl
 ·exact qL st 1 1 ah rfl rfl rfl rfl rfl
 ·intro a' w' hF' hb hd
  have e11:=tE hd 0 rfl
  exact dc0 (rk ji (aI e11)) (cZ _ (q2) _ (h2.below (ar st.bel hb))) rfl rfl
 ·intro a' w' hF' hb hd
  obtain⟨v10_0,e10,h10_1⟩:=tH hd 0 rfl
  obtain⟨v12_0,e12,h12_1⟩:=tH hd 1 rfl
  exact dc0 (rk pS (aC e10 e12)) (jF _ _ (Rat.den (q1)) (Rat.den (q2)) _ (Dg.nt h10_1) (Dg.nt h12_1)) rfl rfl
 ·intro a' w' hF' hb hd
  obtain⟨v13_0,e13,h13_1⟩:=tH hd 0 rfl
  exact dv0 (aO e13) h13_1 rfl rfl
 intro a w4 hF bb hall hne
 replace st:=st.to bb
 obtain⟨vv5,hF,st⟩:=aS hall hF st 5 rfl rfl Dg.cl
 clear hall hne bb
 obtain⟨ad7,n7,c7,rfl⟩:=Dg.form (st.f 0 rfl)
 refine nq ?_
 refine oL hF st 3 2 ah rfl rfl rfl rfl fun a hF=>?_
 refine ca st hF (rk ji (aI (hF.at 0 rfl))) (cZ _ (q1) _ (h1.below st.bel)) (fun _ _ h=>h) Dg.cl rfl fun vv9 w8 a st hF=>?_
 obtain⟨ad11,n11,c11,rfl⟩:=Dg.form (st.f 0 rfl)
 refine oM hF 2 rfl rfl fun a hF=>?_
 refine ca st hF (rk iU (aC (hF.at 1 rfl) (hF.at 0 rfl))) (fD _ _ (Rat.den (q1)) (Nat.gcd (Rat.den (q1)) (Rat.den (q2))) _ (Dg.nt (st.f 0 rfl)) (Dg.nt (st.f 1 rfl))) (fun _ _ h=>h) Dg.cl rfl fun vv13 w12 a st hF=>?_
 obtain⟨ad15,n15,c15,rfl⟩:=Dg.form (st.f 0 rfl)
 refine oA hF 0 rfl rfl fun a hF=>?_
 refine ns ?_
 refine E.drawn 13 aF hF [18,19,20,21,22,23,24,25,26,27,28,29,7] [(fun _ v=>v= .pointer (some ⟨g2,0,none⟩)),(fun _ v=>v= .agg #[.bool b1,.slice ad1 n1 c1]),(fun _ v=>v= .agg #[.bool b2,.slice ad2 n2 c2,.slice ae2 m2 d2]),(fun w v=>Dg w .u32 B32 v (Rat.den (q2))),(fun _ v=>v= .slice ad7 n7 c7),(fun w v=>Dg w .u32 B32 v ((Rat.den (q2))/(Nat.gcd (Rat.den (q1)) (Rat.den (q2))))),(fun w v=>Wc w v ((Rat.num (q1))*(((Rat.den (q2))/(Nat.gcd (Rat.den (q1)) (Rat.den (q2))):Nat):Int))),(fun _ v=>v= .pointer (some ⟨g3,0,none⟩)),(fun _ v=>v= .agg #[.bool b2,.slice ad2 n2 c2]),(fun _ v=>v= .slice ad15 n15 c15),(fun w v=>Wc w v ((Rat.num (q2))*(((Rat.den (q1))/(Nat.gcd (Rat.den (q1)) (Rat.den (q2))):Nat):Int))),(fun w v=>Wc w v (((Rat.num (q1))*(((Rat.den (q2))/(Nat.gcd (Rat.den (q1)) (Rat.den (q2))):Nat):Int))+((Rat.num (q2))*(((Rat.den (q1))/(Nat.gcd (Rat.den (q1)) (Rat.den (q2))):Nat):Int)))),(fun w v=>∃g,v= .pointer (some ⟨g,0,none⟩)∧w12.heap.size≤g∧Own w g [.bool false,.slice none 0 0])] [12] (by decide+kernel) (by decide+kernel) rfl rfl rfl ⟨(Mb.eq _),(Mb.eq _),(Mb.eq _),(fun _ _ _ h hb=>h.below hb),(Mb.eq _),(fun _ _ _ h hb=>h.below hb),(fun _ _ _ h hb=>h.below hb),(Mb.eq _),(Mb.eq _),(Mb.eq _),(fun _ _ _ h hb=>h.below hb),(fun _ _ _ h hb=>h.below hb),(fun _ _ _ ⟨g,e,l,o⟩ hb=>⟨g,e,l,o.below hb⟩),trivial⟩ ⟨fun _ _ ⟨g,e,_,o⟩=>⟨g,e,o.lt⟩,trivial⟩ ⟨?_,?_,?_,?_,?_,?_,?_,?_,?_,?_,?_,?_,?_,trivial⟩ ?_
 ·intro a' w' hF' hb hd
  exact dv0 (aA (hF'.at 8 rfl) (ch (p:=0) rfl)) rfl rfl rfl
 ·intro a' w' hF' hb hd
  have e18:=tE hd 0 rfl
  exact dv0 (av e18 (ff (vs:=[.bool b1,.slice ad1 n1 c1]) ((st.b 2 rfl rfl).below hb) rfl rfl)) rfl rfl rfl
 ·exact qL st 7 1 ah rfl rfl rfl rfl rfl
 ·intro a' w' hF' hb hd
  have e20:=tE hd 0 rfl
  exact dc0 (rk ji (aI e20)) (cZ _ (q2) _ (h2.below (ar st.bel hb))) rfl rfl
 ·exact qM 5 rfl rfl rfl
 ·intro a' w' hF' hb hd
  obtain⟨v21_0,e21,h21_1⟩:=tH hd 0 rfl
  have e22:=tE hd 1 rfl
  exact dc0 (rk iU (aC e21 e22)) (fD _ _ (Rat.den (q2)) (Nat.gcd (Rat.den (q1)) (Rat.den (q2))) _ (Dg.nt h21_1) (Dg.nt ((st.f 2 rfl).below hb))) rfl rfl
 ·intro a' w' hF' hb hd
  have e19:=tE hd 0 rfl
  obtain⟨v23_0,e23,h23_1⟩:=tH hd 1 rfl
  exact dc0 (rk xu (aC e19 e23)) (ju _ _ (Rat.num (q1)) ((Rat.den (q2))/(Nat.gcd (Rat.den (q1)) (Rat.den (q2)))) k k _ (Wc.wz (hn1.below (ar st.bel hb))) (Dg.nt h23_1) (l1.1) (fA (l2.2)) (by omega) (by omega)) rfl rfl
 ·intro a' w' hF' hb hd
  exact dv0 (aA (hF'.at 7 rfl) (ch (p:=0) rfl)) rfl rfl rfl
 ·intro a' w' hF' hb hd
  have e25:=tE hd 0 rfl
  exact dv0 (av e25 (ff (vs:=[.bool b2,.slice ad2 n2 c2]) ((st.b 1 rfl rfl).below hb) rfl rfl)) rfl rfl rfl
 ·exact qM 0 rfl rfl rfl
 ·intro a' w' hF' hb hd
  have e26:=tE hd 0 rfl
  have e27:=tE hd 1 rfl
  exact dc0 (rk xu (aC e26 e27)) (ju _ _ (Rat.num (q2)) ((Rat.den (q1))/(Nat.gcd (Rat.den (q1)) (Rat.den (q2)))) k k _ (Wc.wz (hn2.below (ar st.bel hb))) (Dg.nt ((st.f 0 rfl).below hb)) (l2.1) (fA (l1.2)) (by omega) (by omega)) rfl rfl
 ·intro a' w' hF' hb hd
  obtain⟨v24_0,e24,h24_1⟩:=tH hd 0 rfl
  obtain⟨v28_0,e28,h28_1⟩:=tH hd 1 rfl
  exact dc0 (rk H0 (aC e24 e28)) (xX _ _ _ _ (k+k) (k+k) _ (Wc.wz h24_1) (Wc.wz h28_1) (cG (l1.1) (fA (l2.2))) (cG (l2.1) (fA (l1.2))) (by omega) (by omega)) rfl rfl
 ·intro a' w' hF' hb hd
  exact da0 cA rfl hb.size rfl
 intro a w16 hF bb hall hne
 have s0:=st
 replace st:=st.to bb
 obtain⟨vv17,hF,st⟩:=aS hall hF st 11 rfl rfl Wc.cl
 obtain⟨_,e7,g7,rfl,ge7,o7⟩:=sS hall 12 7 rfl rfl
 replace st:=st.push o7.blk (Nat.le_trans s0.bel.size ge7) (s0.ne ge7)
 clear o7
 clear hall hne bb s0
 obtain⟨ad19,n19,c19,rfl,_⟩:=Wc.shape (st.f 0 rfl)
 replace hF:=hF.add e7
 clear e7
 refine so st hF 0 0 1 cA rfl rfl rfl rfl fun w20 a st hF=>?_
 have hf21:=Wc.abs (st.f 0 rfl)
 replace st:=st.add hf21 (Dg.cl _)
 clear hf21
 refine nq ?_
 refine oV hF (aA (hF.at 0 rfl) (cU (p:=1) rfl)) rfl fun a hF=>?_
 refine oV hF (av (hF.at 0 rfl) (cK (v:= .slice ad19 n19 c19) (st.b 0 rfl rfl) rfl)) rfl fun a hF=>?_
 refine oM hF 9 rfl rfl fun a hF=>?_
 refine ca st hF (rk pS (aC (hF.at 1 rfl) (hF.at 0 rfl))) (jF _ _ (Int.natAbs (((Rat.num (q1))*(((Rat.den (q2))/(Nat.gcd (Rat.den (q1)) (Rat.den (q2))):Nat):Int))+((Rat.num (q2))*(((Rat.den (q1))/(Nat.gcd (Rat.den (q1)) (Rat.den (q2))):Nat):Int)))) (Nat.gcd (Rat.den (q1)) (Rat.den (q2))) _ (Dg.nt (st.f 0 rfl)) (Dg.nt (st.f 4 rfl))) (fun _ _ h=>h) Dg.cl rfl fun vv23 w22 a st hF=>?_
 obtain⟨ad25,n25,c25,rfl⟩:=Dg.form (st.f 0 rfl)
 refine oA hF 0 rfl rfl fun a hF=>?_
 refine nq ?_
 refine oV hF (aA (hF.at 5 rfl) (cU (p:=1) rfl)) rfl fun a hF=>?_
 refine oV hF (av (hF.at 0 rfl) (cK (v:= .slice ad19 n19 c19) (st.b 0 rfl rfl) rfl)) rfl fun a hF=>?_
 refine oM hF 2 rfl rfl fun a hF=>?_
 refine ca st hF (rk iU (aC (hF.at 1 rfl) (hF.at 0 rfl))) (fD _ _ (Int.natAbs (((Rat.num (q1))*(((Rat.den (q2))/(Nat.gcd (Rat.den (q1)) (Rat.den (q2))):Nat):Int))+((Rat.num (q2))*(((Rat.den (q1))/(Nat.gcd (Rat.den (q1)) (Rat.den (q2))):Nat):Int)))) (Nat.gcd (Int.natAbs (((Rat.num (q1))*(((Rat.den (q2))/(Nat.gcd (Rat.den (q1)) (Rat.den (q2))):Nat):Int))+((Rat.num (q2))*(((Rat.den (q1))/(Nat.gcd (Rat.den (q1)) (Rat.den (q2))):Nat):Int)))) (Nat.gcd (Rat.den (q1)) (Rat.den (q2)))) _ (Dg.nt (st.f 1 rfl)) (Dg.nt (st.f 0 rfl))) (fun _ _ h=>h) Dg.cl rfl fun vv27 w26 a st hF=>?_
 obtain⟨ad29,n29,c29,rfl⟩:=Dg.form (st.f 0 rfl)
 refine oV hF (aA (hF.at 9 rfl) (cU (p:=1) rfl)) rfl fun a hF=>?_
 refine S.stoo (o:=1) (vs:=[.slice ad29 n29 c29]) (ws:=[.bool (decide (((Rat.num (q1))*(((Rat.den (q2))/(Nat.gcd (Rat.den (q1)) (Rat.den (q2))):Nat):Int))+((Rat.num (q2))*(((Rat.den (q1))/(Nat.gcd (Rat.den (q1)) (Rat.den (q2))):Nat):Int))<0)),.slice ad29 n29 c29]) st hF 0 rfl (hF.at 0 rfl) (hF.at 1 rfl) rfl j3 rfl rfl rfl rfl rfl fun w30 a st hF=>?_
 refine ns ?_
 refine E.drawn 8 aF hF [39,40,41,42,43,44,45,46] [(fun _ v=>v= .agg #[.bool (decide (((Rat.num (q1))*(((Rat.den (q2))/(Nat.gcd (Rat.den (q1)) (Rat.den (q2))):Nat):Int))+((Rat.num (q2))*(((Rat.den (q1))/(Nat.gcd (Rat.den (q1)) (Rat.den (q2))):Nat):Int))<0)),.slice ad29 n29 c29]),(fun _ v=>v= .slice ad15 n15 c15),(fun _ v=>v= .agg #[.bool b2,.slice ad2 n2 c2,.slice ae2 m2 d2]),(fun w v=>Dg w .u32 B32 v (Rat.den (q2))),(fun _ v=>v= .slice ad25 n25 c25),(fun w v=>Dg w .u32 B32 v ((Rat.den (q2))/(Nat.gcd (Int.natAbs (((Rat.num (q1))*(((Rat.den (q2))/(Nat.gcd (Rat.den (q1)) (Rat.den (q2))):Nat):Int))+((Rat.num (q2))*(((Rat.den (q1))/(Nat.gcd (Rat.den (q1)) (Rat.den (q2))):Nat):Int)))) (Nat.gcd (Rat.den (q1)) (Rat.den (q2)))))),(fun w v=>Dg w .u32 B32 v (((Rat.den (q1))/(Nat.gcd (Rat.den (q1)) (Rat.den (q2))))*((Rat.den (q2))/(Nat.gcd (Int.natAbs (((Rat.num (q1))*(((Rat.den (q2))/(Nat.gcd (Rat.den (q1)) (Rat.den (q2))):Nat):Int))+((Rat.num (q2))*(((Rat.den (q1))/(Nat.gcd (Rat.den (q1)) (Rat.den (q2))):Nat):Int)))) (Nat.gcd (Rat.den (q1)) (Rat.den (q2))))))),(fun w v=>Rq w v (q1+q2))] [] (by decide+kernel) (by decide+kernel) rfl rfl rfl ⟨(Mb.eq _),(Mb.eq _),(Mb.eq _),(fun _ _ _ h hb=>h.below hb),(Mb.eq _),(fun _ _ _ h hb=>h.below hb),(fun _ _ _ h hb=>h.below hb),(fun _ _ _ h hb=>h.below hb),trivial⟩ trivial ⟨?_,?_,?_,?_,?_,?_,?_,?_,trivial⟩ ?_
 ·exact qL st 10 0 cA rfl rfl rfl rfl rfl
 ·exact qM 12 rfl rfl rfl
 ·exact qL st 19 2 ah rfl rfl rfl rfl rfl
 ·intro a' w' hF' hb hd
  have e41:=tE hd 0 rfl
  exact dc0 (rk ji (aI e41)) (cZ _ (q2) _ (h2.below (ar st.bel hb))) rfl rfl
 ·exact qM 5 rfl rfl rfl
 ·intro a' w' hF' hb hd
  obtain⟨v42_0,e42,h42_1⟩:=tH hd 0 rfl
  have e43:=tE hd 1 rfl
  exact dc0 (rk iU (aC e42 e43)) (fD _ _ (Rat.den (q2)) (Nat.gcd (Int.natAbs (((Rat.num (q1))*(((Rat.den (q2))/(Nat.gcd (Rat.den (q1)) (Rat.den (q2))):Nat):Int))+((Rat.num (q2))*(((Rat.den (q1))/(Nat.gcd (Rat.den (q1)) (Rat.den (q2))):Nat):Int)))) (Nat.gcd (Rat.den (q1)) (Rat.den (q2)))) _ (Dg.nt h42_1) (Dg.nt ((st.f 1 rfl).below hb))) rfl rfl
 ·intro a' w' hF' hb hd
  have e40:=tE hd 0 rfl
  obtain⟨v44_0,e44,h44_1⟩:=tH hd 1 rfl
  exact dc0 (rk wH (aC e40 e44)) (nF _ _ ((Rat.den (q1))/(Nat.gcd (Rat.den (q1)) (Rat.den (q2)))) ((Rat.den (q2))/(Nat.gcd (Int.natAbs (((Rat.num (q1))*(((Rat.den (q2))/(Nat.gcd (Rat.den (q1)) (Rat.den (q2))):Nat):Int))+((Rat.num (q2))*(((Rat.den (q1))/(Nat.gcd (Rat.den (q1)) (Rat.den (q2))):Nat):Int)))) (Nat.gcd (Rat.den (q1)) (Rat.den (q2))))) _ (Dg.nt ((st.f 4 rfl).below hb)) (Dg.nt h44_1) (Lim.dl (fA (l1.2)) _ (by omega)) (Lim.dl (fA (l2.2)) _ (by omega))) rfl rfl
 ·intro a' w' hF' hb hd
  have e39:=tE hd 0 rfl
  obtain⟨v45_0,e45,h45_1⟩:=tH hd 1 rfl
  exact dc0 (rk nh (aC e39 e45)) (kF _ _ _ ((Int.natAbs (((Rat.num (q1))*(((Rat.den (q2))/(Nat.gcd (Rat.den (q1)) (Rat.den (q2))):Nat):Int))+((Rat.num (q2))*(((Rat.den (q1))/(Nat.gcd (Rat.den (q1)) (Rat.den (q2))):Nat):Int))))/(Nat.gcd (Int.natAbs (((Rat.num (q1))*(((Rat.den (q2))/(Nat.gcd (Rat.den (q1)) (Rat.den (q2))):Nat):Int))+((Rat.num (q2))*(((Rat.den (q1))/(Nat.gcd (Rat.den (q1)) (Rat.den (q2))):Nat):Int)))) (Nat.gcd (Rat.den (q1)) (Rat.den (q2))))) (((Rat.den (q1))/(Nat.gcd (Rat.den (q1)) (Rat.den (q2))))*((Rat.den (q2))/(Nat.gcd (Int.natAbs (((Rat.num (q1))*(((Rat.den (q2))/(Nat.gcd (Rat.den (q1)) (Rat.den (q2))):Nat):Int))+((Rat.num (q2))*(((Rat.den (q1))/(Nat.gcd (Rat.den (q1)) (Rat.den (q2))):Nat):Int)))) (Nat.gcd (Rat.den (q1)) (Rat.den (q2)))))) (q1+q2) _ ((st.f 0 rfl).below hb) h45_1 HP.out.1 (fun _=>HP.out.2)) rfl rfl
 intro a w31 hF bb hall hne
 replace st:=st.to bb
 obtain⟨vv32,hF,st⟩:=aS hall hF st 7 rfl rfl Rq.cl
 clear hall hne bb
 obtain⟨r34,rfl⟩:=Rq.fo (st.f 0 rfl)
 refine so st hF 1 19 0 ah rfl rfl rfl rfl fun w35 a st hF=>?_
 refine nr ?_
 refine rs Tryz.results56 st hF 19 1 ah rfl rfl rfl ?_
 have bel:=st.bel
 have hh33:=(st.f 0 rfl)
 exact⟨_,rfl,hh33,bel⟩
theorem oa (v1 v2:Value) (q1 q2:Rat) (k:Nat) (w:World) (h1:Rq w v1 q1) (h2:Rq w v2 q2) (l1:au q1 k) (l2:au q2 k) (hk:k≤100000):
 Calls Tryz.prog 58 #[v1,v2] w (bl w (q1*q2)):=by
 obtain⟨b1,ad1,n1,c1,ae1,m1,d1,rfl,hn1,hd1⟩:=h1.shape
 have h1:Rq w (.agg #[.bool b1,.slice ad1 n1 c1,.slice ae1 m1 d1]) q1:=⟨_,_,_,_,_,_,_,rfl,hn1,hd1⟩
 have ha1:=hn1.abs
 have hb1:=hn1.neg
 obtain⟨b2,ad2,n2,c2,ae2,m2,d2,rfl,hn2,hd2⟩:=h2.shape
 have h2:Rq w (.agg #[.bool b2,.slice ad2 n2 c2,.slice ae2 m2 d2]) q2:=⟨_,_,_,_,_,_,_,rfl,hn2,hd2⟩
 have ha2:=hn2.abs
 have hb2:=hn2.neg
 have HP:=yr q1 q2
 rw[←hb1,←hb2] at HP
 replace HP:=Lib.hid HP
 have st:=St.start w
 refine go2 (nt:=52) Tryz.func58 rfl rfl rfl fun a hF=>?_
 refine wq ?_
 refine bx st hF 0 rfl rfl fun g2 w1 a st hF=>?_
 refine bx st hF 2 rfl rfl fun g3 w2 a st hF=>?_
 refine S.alloc st hF ah rfl rfl fun g4 w3 a st hF=>?_
 refine ns ?_
 refine E.drawn 14 aF hF [9,10,11,12,13,14,15,16,17,18,19,20,5,6] [(fun _ v=>v= .pointer (some ⟨g2,0,none⟩)),(fun _ v=>v= .pointer (some ⟨g2,1,none⟩)),(fun _ v=>v= .slice ad1 n1 c1),(fun _ v=>v= .agg #[.bool b2,.slice ad2 n2 c2,.slice ae2 m2 d2]),(fun w v=>Dg w .u32 B32 v (Rat.den (q2))),(fun w v=>Dg w .u32 B32 v (Nat.gcd (Int.natAbs (Rat.num (q1))) (Rat.den (q2)))),(fun _ v=>v= .pointer (some ⟨g3,0,none⟩)),(fun _ v=>v= .pointer (some ⟨g3,1,none⟩)),(fun _ v=>v= .slice ad2 n2 c2),(fun _ v=>v= .agg #[.bool b1,.slice ad1 n1 c1,.slice ae1 m1 d1]),(fun w v=>Dg w .u32 B32 v (Rat.den (q1))),(fun w v=>Dg w .u32 B32 v (Nat.gcd (Int.natAbs (Rat.num (q2))) (Rat.den (q1)))),(fun w v=>Dg w .u32 B32 v (Nat.gcd (Int.natAbs (Rat.num (q1))) (Rat.den (q2)))),(fun w v=>Dg w .u32 B32 v (Nat.gcd (Int.natAbs (Rat.num (q2))) (Rat.den (q1))))] [] (by decide+kernel) (by decide+kernel) rfl rfl rfl ⟨(Mb.eq _),(Mb.eq _),(Mb.eq _),(Mb.eq _),(fun _ _ _ h hb=>h.below hb),(fun _ _ _ h hb=>h.below hb),(Mb.eq _),(Mb.eq _),(Mb.eq _),(Mb.eq _),(fun _ _ _ h hb=>h.below hb),(fun _ _ _ h hb=>h.below hb),(fun _ _ _ h hb=>h.below hb),(fun _ _ _ h hb=>h.below hb),trivial⟩ trivial ⟨?_,?_,?_,?_,?_,?_,?_,?_,?_,?_,?_,?_,?_,?_,trivial⟩ ?_
 ·intro a' w' hF' hb hd
  exact dv0 (aA (hF'.at 2 rfl) (ch (p:=0) rfl)) rfl rfl rfl
 ·intro a' w' hF' hb hd
  have e9:=tE hd 0 rfl
  exact dv0 (aA e9 (cU (p:=1) rfl)) rfl rfl rfl
 ·intro a' w' hF' hb hd
  have e10:=tE hd 0 rfl
  exact dv0 (av e10 (cK (v:= .slice ad1 n1 c1) ((st.b 2 rfl rfl).below hb) rfl)) rfl rfl rfl
 ·exact qL st 1 1 ah rfl rfl rfl rfl rfl
 ·intro a' w' hF' hb hd
  have e12:=tE hd 0 rfl
  exact dc0 (rk ji (aI e12)) (cZ _ (q2) _ (h2.below (ar st.bel hb))) rfl rfl
 ·intro a' w' hF' hb hd
  have e11:=tE hd 0 rfl
  obtain⟨v13_0,e13,h13_1⟩:=tH hd 1 rfl
  exact dc0 (rk pS (aC e11 e13)) (jF _ _ (Int.natAbs (Rat.num (q1))) (Rat.den (q2)) _ (Dg.nt (ha1.below (ar st.bel hb))) (Dg.nt h13_1)) rfl rfl
 ·intro a' w' hF' hb hd
  exact dv0 (aA (hF'.at 1 rfl) (ch (p:=0) rfl)) rfl rfl rfl
 ·intro a' w' hF' hb hd
  have e15:=tE hd 0 rfl
  exact dv0 (aA e15 (cU (p:=1) rfl)) rfl rfl rfl
 ·intro a' w' hF' hb hd
  have e16:=tE hd 0 rfl
  exact dv0 (av e16 (cK (v:= .slice ad2 n2 c2) ((st.b 1 rfl rfl).below hb) rfl)) rfl rfl rfl
 ·exact qL st 2 2 ah rfl rfl rfl rfl rfl
 ·intro a' w' hF' hb hd
  have e18:=tE hd 0 rfl
  exact dc0 (rk ji (aI e18)) (cZ _ (q1) _ (h1.below (ar st.bel hb))) rfl rfl
 ·intro a' w' hF' hb hd
  have e17:=tE hd 0 rfl
  obtain⟨v19_0,e19,h19_1⟩:=tH hd 1 rfl
  exact dc0 (rk pS (aC e17 e19)) (jF _ _ (Int.natAbs (Rat.num (q2))) (Rat.den (q1)) _ (Dg.nt (ha2.below (ar st.bel hb))) (Dg.nt h19_1)) rfl rfl
 ·intro a' w' hF' hb hd
  obtain⟨v14_0,e14,h14_1⟩:=tH hd 0 rfl
  exact dv0 (aO e14) h14_1 rfl rfl
 ·intro a' w' hF' hb hd
  obtain⟨v20_0,e20,h20_1⟩:=tH hd 0 rfl
  exact dv0 (aO e20) h20_1 rfl rfl
 intro a w4 hF bb hall hne
 replace st:=st.to bb
 obtain⟨vv5,hF,st⟩:=aS hall hF st 12 rfl rfl Dg.cl
 obtain⟨vv7,hF,st⟩:=aS hall hF st 13 rfl rfl Dg.cl
 clear hall hne bb
 obtain⟨ad9,n9,c9,rfl⟩:=Dg.form (st.f 1 rfl)
 obtain⟨ad10,n10,c10,rfl⟩:=Dg.form (st.f 0 rfl)
 refine ns ?_
 refine E.drawn 12 aF hF [21,22,23,24,25,26,27,28,29,30,31,7] [(fun _ v=>v= .pointer (some ⟨g2,0,none⟩)),(fun _ v=>v= .pointer (some ⟨g2,1,none⟩)),(fun _ v=>v= .slice ad1 n1 c1),(fun _ v=>v= .slice ad9 n9 c9),(fun w v=>Dg w .u32 B32 v ((Int.natAbs (Rat.num (q1)))/(Nat.gcd (Int.natAbs (Rat.num (q1))) (Rat.den (q2))))),(fun _ v=>v= .pointer (some ⟨g3,0,none⟩)),(fun _ v=>v= .pointer (some ⟨g3,1,none⟩)),(fun _ v=>v= .slice ad2 n2 c2),(fun _ v=>v= .slice ad10 n10 c10),(fun w v=>Dg w .u32 B32 v ((Int.natAbs (Rat.num (q2)))/(Nat.gcd (Int.natAbs (Rat.num (q2))) (Rat.den (q1))))),(fun w v=>Dg w .u32 B32 v (((Int.natAbs (Rat.num (q1)))/(Nat.gcd (Int.natAbs (Rat.num (q1))) (Rat.den (q2))))*((Int.natAbs (Rat.num (q2)))/(Nat.gcd (Int.natAbs (Rat.num (q2))) (Rat.den (q1)))))),(fun w v=>Dg w .u32 B32 v (((Int.natAbs (Rat.num (q1)))/(Nat.gcd (Int.natAbs (Rat.num (q1))) (Rat.den (q2))))*((Int.natAbs (Rat.num (q2)))/(Nat.gcd (Int.natAbs (Rat.num (q2))) (Rat.den (q1))))))] [] (by decide+kernel) (by decide+kernel) rfl rfl rfl ⟨(Mb.eq _),(Mb.eq _),(Mb.eq _),(Mb.eq _),(fun _ _ _ h hb=>h.below hb),(Mb.eq _),(Mb.eq _),(Mb.eq _),(Mb.eq _),(fun _ _ _ h hb=>h.below hb),(fun _ _ _ h hb=>h.below hb),(fun _ _ _ h hb=>h.below hb),trivial⟩ trivial ⟨?_,?_,?_,?_,?_,?_,?_,?_,?_,?_,?_,?_,trivial⟩ ?_
 ·intro a' w' hF' hb hd
  exact dv0 (aA (hF'.at 4 rfl) (ch (p:=0) rfl)) rfl rfl rfl
 ·intro a' w' hF' hb hd
  have e21:=tE hd 0 rfl
  exact dv0 (aA e21 (cU (p:=1) rfl)) rfl rfl rfl
 ·intro a' w' hF' hb hd
  have e22:=tE hd 0 rfl
  exact dv0 (av e22 (cK (v:= .slice ad1 n1 c1) ((st.b 2 rfl rfl).below hb) rfl)) rfl rfl rfl
 ·exact qM 1 rfl rfl rfl
 ·intro a' w' hF' hb hd
  have e23:=tE hd 0 rfl
  have e24:=tE hd 1 rfl
  exact dc0 (rk iU (aC e23 e24)) (fD _ _ (Int.natAbs (Rat.num (q1))) (Nat.gcd (Int.natAbs (Rat.num (q1))) (Rat.den (q2))) _ (Dg.nt (ha1.below (ar st.bel hb))) (Dg.nt ((st.f 1 rfl).below hb))) rfl rfl
 ·intro a' w' hF' hb hd
  exact dv0 (aA (hF'.at 3 rfl) (ch (p:=0) rfl)) rfl rfl rfl
 ·intro a' w' hF' hb hd
  have e26:=tE hd 0 rfl
  exact dv0 (aA e26 (cU (p:=1) rfl)) rfl rfl rfl
 ·intro a' w' hF' hb hd
  have e27:=tE hd 0 rfl
  exact dv0 (av e27 (cK (v:= .slice ad2 n2 c2) ((st.b 1 rfl rfl).below hb) rfl)) rfl rfl rfl
 ·exact qM 0 rfl rfl rfl
 ·intro a' w' hF' hb hd
  have e28:=tE hd 0 rfl
  have e29:=tE hd 1 rfl
  exact dc0 (rk iU (aC e28 e29)) (fD _ _ (Int.natAbs (Rat.num (q2))) (Nat.gcd (Int.natAbs (Rat.num (q2))) (Rat.den (q1))) _ (Dg.nt (ha2.below (ar st.bel hb))) (Dg.nt ((st.f 0 rfl).below hb))) rfl rfl
 ·intro a' w' hF' hb hd
  obtain⟨v25_0,e25,h25_1⟩:=tH hd 0 rfl
  obtain⟨v30_0,e30,h30_1⟩:=tH hd 1 rfl
  exact dc0 (rk wH (aC e25 e30)) (nF _ _ ((Int.natAbs (Rat.num (q1)))/(Nat.gcd (Int.natAbs (Rat.num (q1))) (Rat.den (q2)))) ((Int.natAbs (Rat.num (q2)))/(Nat.gcd (Int.natAbs (Rat.num (q2))) (Rat.den (q1)))) _ (Dg.nt h25_1) (Dg.nt h30_1) (Lim.dl (fA (l1.1)) _ (by omega)) (Lim.dl (fA (l2.1)) _ (by omega))) rfl rfl
 ·intro a' w' hF' hb hd
  obtain⟨v31_0,e31,h31_1⟩:=tH hd 0 rfl
  exact dv0 (aO e31) h31_1 rfl rfl
 intro a w11 hF bb hall hne
 replace st:=st.to bb
 obtain⟨vv12,hF,st⟩:=aS hall hF st 11 rfl rfl Dg.cl
 clear hall hne bb
 obtain⟨ad14,n14,c14,rfl⟩:=Dg.form (st.f 0 rfl)
 refine ns ?_
 refine E.drawn 10 aF hF [32,33,34,35,36,37,38,39,40,8] [(fun _ v=>v= .agg #[.bool b1,.slice ad1 n1 c1,.slice ae1 m1 d1]),(fun w v=>Dg w .u32 B32 v (Rat.den (q1))),(fun _ v=>v= .slice ad10 n10 c10),(fun w v=>Dg w .u32 B32 v ((Rat.den (q1))/(Nat.gcd (Int.natAbs (Rat.num (q2))) (Rat.den (q1))))),(fun _ v=>v= .agg #[.bool b2,.slice ad2 n2 c2,.slice ae2 m2 d2]),(fun w v=>Dg w .u32 B32 v (Rat.den (q2))),(fun _ v=>v= .slice ad9 n9 c9),(fun w v=>Dg w .u32 B32 v ((Rat.den (q2))/(Nat.gcd (Int.natAbs (Rat.num (q1))) (Rat.den (q2))))),(fun w v=>Dg w .u32 B32 v (((Rat.den (q1))/(Nat.gcd (Int.natAbs (Rat.num (q2))) (Rat.den (q1))))*((Rat.den (q2))/(Nat.gcd (Int.natAbs (Rat.num (q1))) (Rat.den (q2)))))),(fun w v=>Dg w .u32 B32 v (((Rat.den (q1))/(Nat.gcd (Int.natAbs (Rat.num (q2))) (Rat.den (q1))))*((Rat.den (q2))/(Nat.gcd (Int.natAbs (Rat.num (q1))) (Rat.den (q2))))))] [] (by decide+kernel) (by decide+kernel) rfl rfl rfl ⟨(Mb.eq _),(fun _ _ _ h hb=>h.below hb),(Mb.eq _),(fun _ _ _ h hb=>h.below hb),(Mb.eq _),(fun _ _ _ h hb=>h.below hb),(Mb.eq _),(fun _ _ _ h hb=>h.below hb),(fun _ _ _ h hb=>h.below hb),(fun _ _ _ h hb=>h.below hb),trivial⟩ trivial ⟨?_,?_,?_,?_,?_,?_,?_,?_,?_,?_,trivial⟩ ?_
 ·exact qL st 5 2 ah rfl rfl rfl rfl rfl
 ·intro a' w' hF' hb hd
  have e32:=tE hd 0 rfl
  exact dc0 (rk ji (aI e32)) (cZ _ (q1) _ (h1.below (ar st.bel hb))) rfl rfl
 ·exact qM 1 rfl rfl rfl
 ·intro a' w' hF' hb hd
  obtain⟨v33_0,e33,h33_1⟩:=tH hd 0 rfl
  have e34:=tE hd 1 rfl
  exact dc0 (rk iU (aC e33 e34)) (fD _ _ (Rat.den (q1)) (Nat.gcd (Int.natAbs (Rat.num (q2))) (Rat.den (q1))) _ (Dg.nt h33_1) (Dg.nt ((st.f 1 rfl).below hb))) rfl rfl
 ·exact qL st 4 1 ah rfl rfl rfl rfl rfl
 ·intro a' w' hF' hb hd
  have e36:=tE hd 0 rfl
  exact dc0 (rk ji (aI e36)) (cZ _ (q2) _ (h2.below (ar st.bel hb))) rfl rfl
 ·exact qM 2 rfl rfl rfl
 ·intro a' w' hF' hb hd
  obtain⟨v37_0,e37,h37_1⟩:=tH hd 0 rfl
  have e38:=tE hd 1 rfl
  exact dc0 (rk iU (aC e37 e38)) (fD _ _ (Rat.den (q2)) (Nat.gcd (Int.natAbs (Rat.num (q1))) (Rat.den (q2))) _ (Dg.nt h37_1) (Dg.nt ((st.f 2 rfl).below hb))) rfl rfl
 ·intro a' w' hF' hb hd
  obtain⟨v35_0,e35,h35_1⟩:=tH hd 0 rfl
  obtain⟨v39_0,e39,h39_1⟩:=tH hd 1 rfl
  exact dc0 (rk wH (aC e35 e39)) (nF _ _ ((Rat.den (q1))/(Nat.gcd (Int.natAbs (Rat.num (q2))) (Rat.den (q1)))) ((Rat.den (q2))/(Nat.gcd (Int.natAbs (Rat.num (q1))) (Rat.den (q2)))) _ (Dg.nt h35_1) (Dg.nt h39_1) (Lim.dl (fA (l1.2)) _ (by omega)) (Lim.dl (fA (l2.2)) _ (by omega))) rfl rfl
 ·intro a' w' hF' hb hd
  obtain⟨v40_0,e40,h40_1⟩:=tH hd 0 rfl
  exact dv0 (aO e40) h40_1 rfl rfl
 intro a w15 hF bb hall hne
 replace st:=st.to bb
 obtain⟨vv16,hF,st⟩:=aS hall hF st 9 rfl rfl Dg.cl
 clear hall hne bb
 obtain⟨ad18,n18,c18,rfl⟩:=Dg.form (st.f 0 rfl)
 refine nq ?_
 refine oV hF (aA (hF.at 6 rfl) (ch (p:=0) rfl)) rfl fun a hF=>?_
 refine oV hF (aA (hF.at 0 rfl) (gK (p:=0) rfl)) rfl fun a hF=>?_
 refine oV hF (av (hF.at 0 rfl) (dP (v:= .bool b1) (st.b 2 rfl rfl) rfl)) rfl fun a hF=>?_
 refine oV hF (aA (hF.at 8 rfl) (ch (p:=0) rfl)) rfl fun a hF=>?_
 refine oV hF (aA (hF.at 0 rfl) (gK (p:=0) rfl)) rfl fun a hF=>?_
 refine oV hF (av (hF.at 0 rfl) (dP (v:= .bool b2) (st.b 1 rfl rfl) rfl)) rfl fun a hF=>?_
 refine oV hF (aq (hF.at 3 rfl) (hF.at 0 rfl) lr (mB (d:=(b1 !=b2)) rfl)) rfl fun a hF=>?_
 refine oM hF 8 rfl rfl fun a hF=>?_
 refine oV hF (bh (eL (hF.at 1 rfl) (hF.at 0 rfl)) (mL _ _ _ _ _)) rfl fun a hF=>?_
 refine oM hF 9 rfl rfl fun a hF=>?_
 refine ca st hF (rk nh (aC (hF.at 1 rfl) (hF.at 0 rfl))) (kF _ _ _ (((Int.natAbs (Rat.num (q1)))/(Nat.gcd (Int.natAbs (Rat.num (q1))) (Rat.den (q2))))*((Int.natAbs (Rat.num (q2)))/(Nat.gcd (Int.natAbs (Rat.num (q2))) (Rat.den (q1))))) (((Rat.den (q1))/(Nat.gcd (Int.natAbs (Rat.num (q2))) (Rat.den (q1))))*((Rat.den (q2))/(Nat.gcd (Int.natAbs (Rat.num (q1))) (Rat.den (q2))))) (q1*q2) _ (st.f 1 rfl) (st.f 0 rfl) HP.out.1 (fun _=>HP.out.2)) (fun _ _ h=>h) Rq.cl rfl fun vv20 w19 a st hF=>?_
 obtain⟨r22,rfl⟩:=Rq.fo (st.f 0 rfl)
 refine so st hF 0 15 0 ah rfl rfl rfl rfl fun w23 a st hF=>?_
 refine nr ?_
 refine rs Tryz.results58 st hF 15 0 ah rfl rfl rfl ?_
 have bel:=st.bel
 have hh21:=(st.f 0 rfl)
 exact⟨_,rfl,hh21,bel⟩
theorem ix (v1 v2:Value) (q1 q2:Rat) (k:Nat) (w:World) (h1:Rq w v1 q1) (h2:Rq w v2 q2) (l1:au q1 k) (l2:au q2 k) (hk:k≤100000):
 Calls Tryz.prog 57 #[v1,v2] w (bl w (q1-q2)):=by
 obtain⟨r1,rfl⟩:=h1.fo
 obtain⟨r2,rfl⟩:=h2.fo
 have st:=St.start w
 refine go2 (nt:=9) Tryz.func57 rfl rfl rfl fun a hF=>?_
 refine wq ?_
 refine bx st hF 0 rfl rfl fun g2 w1 a st hF=>?_
 refine bx st hF 2 rfl rfl fun g3 w2 a st hF=>?_
 refine S.alloc st hF ah rfl rfl fun g4 w3 a st hF=>?_
 refine ns ?_
 refine eD 4 aF hF [5,6,7,8] [(Iz r1.v),(Iz r2.v),(Iq (-(q2))),(Iq ((q1)+(-(q2))))] [] (by decide+kernel) rfl rfl trivial ⟨?_,?_,?_,?_,trivial⟩ ?_
 ·exact qL st 2 2 ah rfl rfl rfl rfl rfl
 ·exact qL st 1 1 ah rfl rfl rfl rfl rfl
 ·intro a' w' hF' hb hd
  have e6:=tE hd 0 rfl
  exact dc0 (rk Hx (aI e6)) (oh _ (q2) _ (h2.below (ar st.bel hb))) rfl rfl
 ·intro a' w' hF' hb hd
  have e5:=tE hd 0 rfl
  obtain⟨v7_0,e7,h7_1⟩:=tH hd 1 rfl
  exact dc0 (rk wR (aC e5 e7)) (j7 _ _ (q1) (-(q2)) k _ (h1.below (ar st.bel hb)) h7_1 (l1.up _ (by omega)) ((eM l2).up _ (by omega)) (by omega)) rfl rfl
 intro a w4 hF bb hall hne
 replace st:=st.to bb
 obtain⟨vv5,hF,st⟩:=aS hall hF st 3 rfl rfl Rq.cl
 clear hall hne bb
 obtain⟨r7,rfl⟩:=Rq.fo (st.f 0 rfl)
 refine so st hF 0 1 0 ah rfl rfl rfl rfl fun w8 a st hF=>?_
 refine nr ?_
 refine rs Tryz.results57 st hF 1 0 ah rfl rfl rfl ?_
 have bel:=st.bel
 have hh6:=(st.f 0 rfl)
 exact⟨_,rfl,by rw[Rat.sub_eq_add_neg];exact hh6,bel⟩
theorem sm (v1 v2:Value) (q1 q2:Rat) (k:Nat) (w:World) (h1:Rq w v1 q1) (h2:Rq w v2 q2) (l1:au q1 k) (l2:au q2 k) (hk:k≤100000):
 Calls Tryz.prog 75 #[v1,v2] w (bl w (q1/q2)):=by
 obtain⟨b1,ad1,n1,c1,ae1,m1,d1,rfl,hn1,hd1⟩:=h1.shape
 have h1:Rq w (.agg #[.bool b1,.slice ad1 n1 c1,.slice ae1 m1 d1]) q1:=⟨_,_,_,_,_,_,_,rfl,hn1,hd1⟩
 have ha1:=hn1.abs
 have hb1:=hn1.neg
 obtain⟨b2,ad2,n2,c2,ae2,m2,d2,rfl,hn2,hd2⟩:=h2.shape
 have h2:Rq w (.agg #[.bool b2,.slice ad2 n2 c2,.slice ae2 m2 d2]) q2:=⟨_,_,_,_,_,_,_,rfl,hn2,hd2⟩
 have ha2:=hn2.abs
 have hb2:=hn2.neg
 by_cases h0:q2=0
 ·have hq:q1/q2=0:=by rw[h0,Rat.div_def,Rat.inv_zero,Rat.mul_zero]
  have hn0:=Rat.num_eq_zero.2 h0
  clear h0
  have st:=St.start w
  refine go2 (nt:=21) Tryz.func75 rfl rfl rfl fun a hF=>?_
  refine wq ?_
  refine bx st hF 0 rfl rfl fun g2 w1 a st hF=>?_
  refine bx st hF 2 rfl rfl fun g3 w2 a st hF=>?_
  refine S.alloc st hF ah rfl rfl fun g4 w3 a st hF=>?_
  refine ns ?_
  refine wq ?_
  refine oL hF st 1 1 ah rfl rfl rfl rfl fun a hF=>?_
  refine cX st hF (rk nI (aI (hF.at 0 rfl))) (eO _ (q2) _ (h2.below st.bel)) rfl fun w4 a st hF=>?_
  refine oV hF (aq (hF.at 0 rfl) ao ab (aw (aX (c:=true) (eq0 (zI.2 hn0))) (by simp))) rfl fun a hF=>?_
  refine E.nil ?_
  refine wp_cond_true (hF.at 0 rfl) ?_
  refine wq ?_
  refine oV hF (bh (by simp) (iC _)) rfl fun a hF=>?_
  refine so st hF 0 4 0 ah rfl rfl rfl rfl fun w5 a st hF=>?_
  refine nr ?_
  refine rs Tryz.results75 st hF 4 0 ah rfl rfl rfl ?_
  have bel:=st.bel
  exact⟨_,rfl,Rz0 hq _,bel⟩
 ·have hn0:=tY h0
  have HV1:dn q2≠0:=by rw[nC h0];exact q2.den_nz
  have HV2:sg b2 (dn q2)=(q2⁻¹).num :=by rw[hb2,nC h0];exact(mA h0).1
  have HV3:=(mA h0).2
  have st:=St.start w
  refine go2 (nt:=21) Tryz.func75 rfl rfl rfl fun a hF=>?_
  refine wq ?_
  refine bx st hF 0 rfl rfl fun g2 w1 a st hF=>?_
  refine bx st hF 2 rfl rfl fun g3 w2 a st hF=>?_
  refine S.alloc st hF ah rfl rfl fun g4 w3 a st hF=>?_
  refine ns ?_
  refine wq ?_
  refine oL hF st 1 1 ah rfl rfl rfl rfl fun a hF=>?_
  refine cX st hF (rk nI (aI (hF.at 0 rfl))) (eO _ (q2) _ (h2.below st.bel)) rfl fun w4 a st hF=>?_
  refine oV hF (aq (hF.at 0 rfl) ao ab (aw (aX (c:=false) (jk (fun e=>hn0 (zI.1 e)))) (by simp))) rfl fun a hF=>?_
  refine E.nil ?_
  refine wp_cond_false (hF.at 0 rfl) ?_
  refine wp_skip ?_
  refine E.norm ?_
  refine wq ?_
  refine oL hF st 5 2 ah rfl rfl rfl rfl fun a hF=>?_
  refine oV hF (aA (hF.at 5 rfl) (ch (p:=0) rfl)) rfl fun a hF=>?_
  refine oV hF (aA (hF.at 0 rfl) (gK (p:=0) rfl)) rfl fun a hF=>?_
  refine oV hF (av (hF.at 0 rfl) (dP (v:= .bool b2) (st.b 1 rfl rfl) rfl)) rfl fun a hF=>?_
  refine oV hF (aA (hF.at 8 rfl) (f6 (p:=2) rfl)) rfl fun a hF=>?_
  refine oV hF (av (hF.at 0 rfl) (cK (v:= .slice ae2 m2 d2) (st.b 1 rfl rfl) rfl)) rfl fun a hF=>?_
  refine oV hF (bh (eL (hF.at 2 rfl) (hF.at 0 rfl)) (mL _ _ _ _ _)) rfl fun a hF=>?_
  refine oV hF (aA (hF.at 11 rfl) (ch (p:=0) rfl)) rfl fun a hF=>?_
  refine oV hF (aA (hF.at 0 rfl) (cU (p:=1) rfl)) rfl fun a hF=>?_
  refine oV hF (av (hF.at 0 rfl) (cK (v:= .slice ad2 n2 c2) (st.b 1 rfl rfl) rfl)) rfl fun a hF=>?_
  refine oV hF (bh (eL (hF.at 3 rfl) (hF.at 0 rfl)) (qU _ _ _ _ _ _ _ _)) rfl fun a hF=>?_
  refine ca st hF (rk Gr (aC (hF.at 10 rfl) (hF.at 0 rfl))) (oa _ _ (q1) (q2⁻¹) k _ (h1.below st.bel) (Rq.mk (hd2.below st.bel) (ha2.below st.bel) HV1 HV2 HV3) (l1.up _ (by omega)) ((rM l2).up _ (by omega)) (by omega)) (fun _ _ h=>h) Rq.cl rfl fun vv6 w5 a st hF=>?_
  obtain⟨r8,rfl⟩:=Rq.fo (st.f 0 rfl)
  refine so st hF 0 15 0 ah rfl rfl rfl rfl fun w9 a st hF=>?_
  refine nr ?_
  refine rs Tryz.results75 st hF 15 0 ah rfl rfl rfl ?_
  have bel:=st.bel
  have hh7:=(st.f 0 rfl)
  exact⟨_,rfl,by rw[Rat.div_def];exact hh7,bel⟩
theorem s3 (v1 v2:Value) (q1 q2:Rat) (k:Nat) (w:World) (h1:Rq w v1 q1) (h2:Rq w v2 q2) (l1:au q1 k) (l2:au q2 k) (hk:k≤100000):
 Calls Tryz.prog 30 #[v1,v2] w (gN w (qc q1 q2)):=by
 obtain⟨b1,ad1,n1,c1,ae1,m1,d1,rfl,hn1,hd1⟩:=h1.shape
 have h1:Rq w (.agg #[.bool b1,.slice ad1 n1 c1,.slice ae1 m1 d1]) q1:=⟨_,_,_,_,_,_,_,rfl,hn1,hd1⟩
 have ha1:=hn1.abs
 have hb1:=hn1.neg
 obtain⟨b2,ad2,n2,c2,ae2,m2,d2,rfl,hn2,hd2⟩:=h2.shape
 have h2:Rq w (.agg #[.bool b2,.slice ad2 n2 c2,.slice ae2 m2 d2]) q2:=⟨_,_,_,_,_,_,_,rfl,hn2,hd2⟩
 have ha2:=hn2.abs
 have hb2:=hn2.neg
 have st:=St.start w
 refine go2 (nt:=16) Tryz.func30 rfl rfl rfl fun a hF=>?_
 refine wq ?_
 refine bx st hF 0 rfl rfl fun g2 w1 a st hF=>?_
 refine bx st hF 2 rfl rfl fun g3 w2 a st hF=>?_
 refine oC hF rfl fun a hF=>?_
 refine ns ?_
 refine E.drawn 11 aF hF [5,6,7,8,9,10,11,12,13,14,15] [(fun _ v=>v= .pointer (some ⟨g2,0,none⟩)),(fun _ v=>v= .agg #[.bool b1,.slice ad1 n1 c1]),(fun _ v=>v= .agg #[.bool b2,.slice ad2 n2 c2,.slice ae2 m2 d2]),(fun w v=>Dg w .u32 B32 v (Rat.den (q2))),(fun w v=>Wc w v ((Rat.num (q1))*((Rat.den (q2):Nat):Int))),(fun _ v=>v= .pointer (some ⟨g3,0,none⟩)),(fun _ v=>v= .agg #[.bool b2,.slice ad2 n2 c2]),(fun _ v=>v= .agg #[.bool b1,.slice ad1 n1 c1,.slice ae1 m1 d1]),(fun w v=>Dg w .u32 B32 v (Rat.den (q1))),(fun w v=>Wc w v ((Rat.num (q2))*((Rat.den (q1):Nat):Int))),(fun _ v=>v= .int .i64 (ci ((Rat.num (q1))*((Rat.den (q2):Nat):Int)) ((Rat.num (q2))*((Rat.den (q1):Nat):Int))))] [] (by decide+kernel) (by decide+kernel) rfl rfl rfl ⟨(Mb.eq _),(Mb.eq _),(Mb.eq _),(fun _ _ _ h hb=>h.below hb),(fun _ _ _ h hb=>h.below hb),(Mb.eq _),(Mb.eq _),(Mb.eq _),(fun _ _ _ h hb=>h.below hb),(fun _ _ _ h hb=>h.below hb),(Mb.eq _),trivial⟩ trivial ⟨?_,?_,?_,?_,?_,?_,?_,?_,?_,?_,?_,trivial⟩ ?_
 ·intro a' w' hF' hb hd
  exact dv0 (aA (hF'.at 2 rfl) (ch (p:=0) rfl)) rfl rfl rfl
 ·intro a' w' hF' hb hd
  have e5:=tE hd 0 rfl
  exact dv0 (av e5 (ff (vs:=[.bool b1,.slice ad1 n1 c1]) ((st.b 1 rfl rfl).below hb) rfl rfl)) rfl rfl rfl
 ·exact qL st 1 0 ah rfl rfl rfl rfl rfl
 ·intro a' w' hF' hb hd
  have e7:=tE hd 0 rfl
  exact dc0 (rk ji (aI e7)) (cZ _ (q2) _ (h2.below (ar st.bel hb))) rfl rfl
 ·intro a' w' hF' hb hd
  have e6:=tE hd 0 rfl
  obtain⟨v8_0,e8,h8_1⟩:=tH hd 1 rfl
  exact dc0 (rk xu (aC e6 e8)) (ju _ _ (Rat.num (q1)) (Rat.den (q2)) k k _ (Wc.wz (hn1.below (ar st.bel hb))) (Dg.nt h8_1) (l1.1) (l2.2) (by omega) (by omega)) rfl rfl
 ·intro a' w' hF' hb hd
  exact dv0 (aA (hF'.at 1 rfl) (ch (p:=0) rfl)) rfl rfl rfl
 ·intro a' w' hF' hb hd
  have e10:=tE hd 0 rfl
  exact dv0 (av e10 (ff (vs:=[.bool b2,.slice ad2 n2 c2]) ((st.b 0 rfl rfl).below hb) rfl rfl)) rfl rfl rfl
 ·exact qL st 2 1 ah rfl rfl rfl rfl rfl
 ·intro a' w' hF' hb hd
  have e12:=tE hd 0 rfl
  exact dc0 (rk ji (aI e12)) (cZ _ (q1) _ (h1.below (ar st.bel hb))) rfl rfl
 ·intro a' w' hF' hb hd
  have e11:=tE hd 0 rfl
  obtain⟨v13_0,e13,h13_1⟩:=tH hd 1 rfl
  exact dc0 (rk xu (aC e11 e13)) (ju _ _ (Rat.num (q2)) (Rat.den (q1)) k k _ (Wc.wz (hn2.below (ar st.bel hb))) (Dg.nt h13_1) (l2.1) (l1.2) (by omega) (by omega)) rfl rfl
 ·intro a' w' hF' hb hd
  obtain⟨v9_0,e9,h9_1⟩:=tH hd 0 rfl
  obtain⟨v14_0,e14,h14_1⟩:=tH hd 1 rfl
  exact iv (rk wD (aC e9 e14)) (ko _ _ _ _ _ (Wc.wz h9_1) (Wc.wz h14_1)) (fun _=>rfl) rfl rfl
 intro a w3 hF bb hall hne
 replace st:=st.to bb
 replace hF:=aE hall hF 10 rfl rfl
 clear hall hne bb
 refine oE hF 0 rfl rfl fun a hF=>?_
 refine nr ?_
 have bel:=st.bel
 refine rt Tryz.results30 hF 0 rfl ?_
 exact⟨rfl,bel⟩
def s6 (w:World) (b:Bool) (e:Ending) (w':World):Prop:=e= .returned (.bool b)∧Below w.heap.size w w'
theorem Br {a b:Rat} (h:a.num=b.num) (hd:dn a=dn b):a=b:=by
 by_cases h0:a=0
 ·subst h0
  exact(Rat.num_eq_zero.1 h.symm).symm
 ·have h1:b≠0:=zh (by rw[←h];exact tY h0)
  rw[nC h0,nC h1] at hd
  exact Rat.ext h hd
theorem ze {m n:Nat} (h:m=n):c3 m n=0:=by subst h;unfold c3;simp
theorem H4 {m n:Nat} (h:m≠n):c3 m n≠0:=by unfold c3;split <;> (try split) <;> omega
theorem Ib {m n:Int} (h:m≠n):ci m n≠0:=by unfold ci;split <;> (try split) <;> omega
theorem zu (v1 v2:Value) (q1 q2:Rat) (w:World) (h1:Rq w v1 q1) (h2:Rq w v2 q2):
 Calls Tryz.prog 52 #[v1,v2] w (s6 w (decide (q1=q2))):=by
 obtain⟨b1,ad1,n1,c1,ae1,m1,d1,rfl,hn1,hd1⟩:=h1.shape
 have h1:Rq w (.agg #[.bool b1,.slice ad1 n1 c1,.slice ae1 m1 d1]) q1:=⟨_,_,_,_,_,_,_,rfl,hn1,hd1⟩
 have ha1:=hn1.abs
 have hb1:=hn1.neg
 obtain⟨b2,ad2,n2,c2,ae2,m2,d2,rfl,hn2,hd2⟩:=h2.shape
 have h2:Rq w (.agg #[.bool b2,.slice ad2 n2 c2,.slice ae2 m2 d2]) q2:=⟨_,_,_,_,_,_,_,rfl,hn2,hd2⟩
 have ha2:=hn2.abs
 have hb2:=hn2.neg
 by_cases hn:q1.num=q2.num
 ·by_cases hdd:dn q1=dn q2
  ·have HR:=Lib.hid (decide_eq_true (Br hn hdd))
   have st:=St.start w
   refine go2 (nt:=19) Tryz.func52 rfl rfl rfl fun a hF=>?_
   refine wq ?_
   refine bx st hF 0 rfl rfl fun g2 w1 a st hF=>?_
   refine bx st hF 2 rfl rfl fun g3 w2 a st hF=>?_
   refine oC hF rfl fun a hF=>?_
   refine nq ?_
   refine oV hF (aA (hF.at 2 rfl) (ch (p:=0) rfl)) rfl fun a hF=>?_
   refine oV hF (av (hF.at 0 rfl) (ff (vs:=[.bool b1,.slice ad1 n1 c1]) (st.b 1 rfl rfl) rfl rfl)) rfl fun a hF=>?_
   refine oV hF (aA (hF.at 3 rfl) (ch (p:=0) rfl)) rfl fun a hF=>?_
   refine oV hF (av (hF.at 0 rfl) (ff (vs:=[.bool b2,.slice ad2 n2 c2]) (st.b 0 rfl rfl) rfl rfl)) rfl fun a hF=>?_
   refine cX st hF (rk wD (aC (hF.at 2 rfl) (hF.at 0 rfl))) (ko _ _ _ _ _ (Wc.wz (hn1.below st.bel)) (Wc.wz (hn2.below st.bel))) rfl fun w3 a st hF=>?_
   refine oV hF (aq (hF.at 0 rfl) ao ab (aw (aX (c:=true) (eq0 (qA hn))) (by simp))) rfl fun a hF=>?_
   refine oM hF 0 rfl rfl fun a hF=>?_
   refine E.opvg hF (aA (hF.at 9 rfl) (f6 (p:=2) rfl)) (aa rfl rfl (hF.at 0 rfl) rfl) rfl rfl rfl fun a hF=>?_
   refine E.opvg hF (av (hF.at 0 rfl) (cK (v:= .slice ae1 m1 d1) (st.b 1 rfl rfl) rfl)) (aa rfl rfl (hF.at 1 rfl) rfl) rfl rfl rfl fun a hF=>?_
   refine E.opvg hF (aA (hF.at 10 rfl) (f6 (p:=2) rfl)) (aa rfl rfl (hF.at 2 rfl) rfl) rfl rfl rfl fun a hF=>?_
   refine E.opvg hF (av (hF.at 0 rfl) (cK (v:= .slice ae2 m2 d2) (st.b 0 rfl rfl) rfl)) (aa rfl rfl (hF.at 3 rfl) rfl) rfl rfl rfl fun a hF=>?_
   refine S.callxg st hF (aa rfl rfl (hF.at 4 rfl) rfl) (rk Bx (aC (hF.at 2 rfl) (hF.at 0 rfl))) (kK (jz _ _ (dn q1) (dn q2) _ (Dg.nt (hd1.below st.bel)) (Dg.nt (hd2.below st.bel)))) rfl rfl rfl fun w4 a st hF=>?_
   refine E.opvg hF (aq (hF.at 0 rfl) ao ab (aw (aX (c:=true) (eq0 (ze hdd))) (by simp))) (aa rfl rfl (hF.at 5 rfl) rfl) rfl rfl rfl fun a hF=>?_
   refine oV hF (aN (hF.at 6 rfl) (hF.at 0 rfl)) rfl fun a hF=>?_
   refine oE hF 0 rfl rfl fun a hF=>?_
   refine nr ?_
   have bel:=st.bel
   refine rt Tryz.results52 hF 0 rfl ?_
   exact⟨by rw[HR.out],bel⟩
  ·have HR:=Lib.hid (decide_eq_false (p:=q1=q2) (fun e=>hdd (by rw[e])))
   have st:=St.start w
   refine go2 (nt:=19) Tryz.func52 rfl rfl rfl fun a hF=>?_
   refine wq ?_
   refine bx st hF 0 rfl rfl fun g2 w1 a st hF=>?_
   refine bx st hF 2 rfl rfl fun g3 w2 a st hF=>?_
   refine oC hF rfl fun a hF=>?_
   refine nq ?_
   refine oV hF (aA (hF.at 2 rfl) (ch (p:=0) rfl)) rfl fun a hF=>?_
   refine oV hF (av (hF.at 0 rfl) (ff (vs:=[.bool b1,.slice ad1 n1 c1]) (st.b 1 rfl rfl) rfl rfl)) rfl fun a hF=>?_
   refine oV hF (aA (hF.at 3 rfl) (ch (p:=0) rfl)) rfl fun a hF=>?_
   refine oV hF (av (hF.at 0 rfl) (ff (vs:=[.bool b2,.slice ad2 n2 c2]) (st.b 0 rfl rfl) rfl rfl)) rfl fun a hF=>?_
   refine cX st hF (rk wD (aC (hF.at 2 rfl) (hF.at 0 rfl))) (ko _ _ _ _ _ (Wc.wz (hn1.below st.bel)) (Wc.wz (hn2.below st.bel))) rfl fun w3 a st hF=>?_
   refine oV hF (aq (hF.at 0 rfl) ao ab (aw (aX (c:=true) (eq0 (qA hn))) (by simp))) rfl fun a hF=>?_
   refine oM hF 0 rfl rfl fun a hF=>?_
   refine E.opvg hF (aA (hF.at 9 rfl) (f6 (p:=2) rfl)) (aa rfl rfl (hF.at 0 rfl) rfl) rfl rfl rfl fun a hF=>?_
   refine E.opvg hF (av (hF.at 0 rfl) (cK (v:= .slice ae1 m1 d1) (st.b 1 rfl rfl) rfl)) (aa rfl rfl (hF.at 1 rfl) rfl) rfl rfl rfl fun a hF=>?_
   refine E.opvg hF (aA (hF.at 10 rfl) (f6 (p:=2) rfl)) (aa rfl rfl (hF.at 2 rfl) rfl) rfl rfl rfl fun a hF=>?_
   refine E.opvg hF (av (hF.at 0 rfl) (cK (v:= .slice ae2 m2 d2) (st.b 0 rfl rfl) rfl)) (aa rfl rfl (hF.at 3 rfl) rfl) rfl rfl rfl fun a hF=>?_
   refine S.callxg st hF (aa rfl rfl (hF.at 4 rfl) rfl) (rk Bx (aC (hF.at 2 rfl) (hF.at 0 rfl))) (kK (jz _ _ (dn q1) (dn q2) _ (Dg.nt (hd1.below st.bel)) (Dg.nt (hd2.below st.bel)))) rfl rfl rfl fun w4 a st hF=>?_
   refine E.opvg hF (aq (hF.at 0 rfl) ao ab (aw (aX (c:=false) (jk (H4 hdd))) (by simp))) (aa rfl rfl (hF.at 5 rfl) rfl) rfl rfl rfl fun a hF=>?_
   refine oV hF (aN (hF.at 6 rfl) (hF.at 0 rfl)) rfl fun a hF=>?_
   refine oE hF 0 rfl rfl fun a hF=>?_
   refine nr ?_
   have bel:=st.bel
   refine rt Tryz.results52 hF 0 rfl ?_
   exact⟨by rw[HR.out],bel⟩
 ·have HR:=Lib.hid (decide_eq_false (p:=q1=q2) (fun e=>hn (by rw[e])))
  have st:=St.start w
  refine go2 (nt:=19) Tryz.func52 rfl rfl rfl fun a hF=>?_
  refine wq ?_
  refine bx st hF 0 rfl rfl fun g2 w1 a st hF=>?_
  refine bx st hF 2 rfl rfl fun g3 w2 a st hF=>?_
  refine oC hF rfl fun a hF=>?_
  refine nq ?_
  refine oV hF (aA (hF.at 2 rfl) (ch (p:=0) rfl)) rfl fun a hF=>?_
  refine oV hF (av (hF.at 0 rfl) (ff (vs:=[.bool b1,.slice ad1 n1 c1]) (st.b 1 rfl rfl) rfl rfl)) rfl fun a hF=>?_
  refine oV hF (aA (hF.at 3 rfl) (ch (p:=0) rfl)) rfl fun a hF=>?_
  refine oV hF (av (hF.at 0 rfl) (ff (vs:=[.bool b2,.slice ad2 n2 c2]) (st.b 0 rfl rfl) rfl rfl)) rfl fun a hF=>?_
  refine cX st hF (rk wD (aC (hF.at 2 rfl) (hF.at 0 rfl))) (ko _ _ _ _ _ (Wc.wz (hn1.below st.bel)) (Wc.wz (hn2.below st.bel))) rfl fun w3 a st hF=>?_
  refine oV hF (aq (hF.at 0 rfl) ao ab (aw (aX (c:=false) (jk (Ib hn))) (by simp))) rfl fun a hF=>?_
  refine oM hF 0 rfl rfl fun a hF=>?_
  refine E.unwanted hF (aa rfl rfl (hF.at 0 rfl) rfl) rfl rfl rfl fun a hF=>?_
  refine E.unwanted hF (aa rfl rfl (hF.at 1 rfl) rfl) rfl rfl rfl fun a hF=>?_
  refine E.unwanted hF (aa rfl rfl (hF.at 2 rfl) rfl) rfl rfl rfl fun a hF=>?_
  refine E.unwanted hF (aa rfl rfl (hF.at 3 rfl) rfl) rfl rfl rfl fun a hF=>?_
  refine E.unwanted hF (aa rfl rfl (hF.at 4 rfl) rfl) rfl rfl rfl fun a hF=>?_
  refine E.unwanted hF (aa rfl rfl (hF.at 5 rfl) rfl) rfl rfl rfl fun a hF=>?_
  refine oV hF (aQ (hF.at 6 rfl) ao) rfl fun a hF=>?_
  refine oE hF 0 rfl rfl fun a hF=>?_
  refine nr ?_
  have bel:=st.bel
  refine rt Tryz.results52 hF 0 rfl ?_
  exact⟨by rw[HR.out],bel⟩
end
end
end Go.Proofs.YtnljadejcfgmaaaGreatDoor
