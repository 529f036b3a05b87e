import Derived.Test.YtgdpkknapcgcbaaGreatDoorKA13
namespace Go.Proofs.YtgdpkknapcgcbaaGreatDoor
open Go.RowKit
set_option maxRecDepth 100000
set_option linter.unusedVariables false
set_option maxHeartbeats 8000000
section
section
theorem Dg.len {w:World} {k:IntKind} {b:Nat} {ad:Option Addr} {m c N:Nat} (h:Dg w k b (.slice ad m c) N):m=dl b N:=by
 obtain⟨ad',cap,h1,_⟩:=h
 rw[aq] at h1
 injection h1
theorem Dg.len0 {w:World} {k:IntKind} {b:Nat} {ad:Option Addr} {m c:Nat} (h:Dg w k b (.slice ad m c) 0):m=0:=by rw[h.len,eo]
theorem Dg.lenp {w:World} {k:IntKind} {b:Nat} (hb:2<=b) {ad:Option Addr} {m c N:Nat} (h:Dg w k b (.slice ad m c) N) (hN:0<N):0<m:=by rw[h.len];exact dL hb hN
theorem Wc.cast {w:World} {v:Value} {z z':Int} (h:Wc w v z) (e:z=z'):Wc w v z':=by subst e;exact h
def dn (q:Rat):Nat:=if q=0 then 0 else q.den
theorem wM:dn 0=0:=if_pos rfl
theorem tD {q:Rat} (h:q≠0):dn q=q.den:=if_neg h
def Rq (w:World) (v:Value) (q:Rat):Prop:=
 ∃b ad n c ae m d,v= .agg #[.bool b,.slice ad n c,.slice ae m d]/\Wc w (.agg #[.bool b,.slice ad n c]) q.num/\Dg w .u32 B32 (.slice ae m d) (dn q)
def AP (w:World) (q:Rat) (e:Ending) (w':World):Prop:=∃v,e= .returned v/\Rq w' v q/\Below w.heap.size w w'
theorem Rq.shape {w:World} {v:Value} {q:Rat} (h:Rq w v q):∃b ad n c ae m d,v= .agg #[.bool b,.slice ad n c,.slice ae m d]/\Wc w (.agg #[.bool b,.slice ad n c]) q.num/\Dg w .u32 B32 (.slice ae m d) (dn q):=h
theorem Rq.form {w:World} {v:Value} {q:Rat} (h:Rq w v q):∃b ad n c ae m d,v= .agg #[.bool b,.slice ad n c,.slice ae m d]:=by
 obtain⟨b,ad,n,c,ae,m,d,h1,_⟩:=h
 exact⟨b,ad,n,c,ae,m,d,h1⟩
theorem Rq.below {w w':World} {v:Value} {q:Rat} (h:Rq w v q) (hb:Below w.heap.size w w'):Rq w' v q:=by
 obtain⟨b,ad,n,c,ae,m,d,h1,h2,h3⟩:=h
 exact⟨b,ad,n,c,ae,m,d,h1,h2.below hb,h3.below hb⟩
abbrev CQ (f:FuncId) (xs:Array Value) (w:World) (q:Rat):Prop:=Calls Tryz.prog f xs w (AP w q)
def Iq (q:Rat):World->Value->Prop:=fun w v=>Rq w v q
instance mbq {q:Rat}:MbI (Iq q):=⟨fun _ _ _ h hb=>Rq.below h hb⟩
theorem Rq.fo {w:World} {v:Value} {q:Rat} (h:Rq w v q):∃r:R7,v=r.v:=by
 obtain⟨b,x,n,c,y,m,d,e⟩:=h.form
 exact⟨⟨b,x,n,c,y,m,d⟩,e⟩
instance mbd {k:IntKind} {b n:Nat}:MbI (fun w v=>Dg w k b v n):=⟨fun _ _ _ h hb=>Dg.below h hb⟩
instance mbw {z:Int}:MbI (fun w v=>Wc w v z):=⟨fun _ _ _ h hb=>Wc.below h hb⟩
instance mbx {z:Int}:MbI (fun w v=>Wz w v z):=⟨fun _ _ _ h hb=>Wz.below h hb⟩
instance mbg {b:Bool} {n:Nat}:MbI (fun w v=>Wg w v b n):=⟨fun _ _ _ h hb=>Wg.below h hb⟩
theorem Rq.keep {w w':World} {v:Value} {q:Rat} (h:Rq w v q) (kp:dr w w'):Rq w' v q:=by
 obtain⟨b,ad,n,c,ae,m,d,h1,h2,h3⟩:=h
 exact⟨b,ad,n,c,ae,m,d,h1,h2.keep kp,h3.keep kp⟩
theorem IC {q:Rat} (h:q.num≠0):q≠0:=fun e=>h (by rw[e];rfl)
theorem BE {q:Rat} (h:q≠0):q.num≠0:=fun e=>h (Rat.num_eq_zero.1 e)
theorem Rq.zero (w:World):Rq w (.agg #[.bool false,.slice none 0 0,.slice none 0 0]) 0:=
 ⟨false,none,0,0,none,0,0,rfl,Wc.zero w,by rw[wM];exact Dg.nil w⟩
theorem Rq.mk {w:World} {b:Bool} {ad ae:Option Addr} {n c m d N D:Nat} {q:Rat} (h1:Dg w .u32 B32 (.slice ad n c) N) (h2:Dg w .u32 B32 (.slice ae m d) D) (hN:N≠0) (hz:sg b N=q.num) (hd:D=q.den):
 Rq w (.agg #[.bool b,.slice ad n c,.slice ae m d]) q:=by
 have hp:0<N:=by omega
 have hne:q.num≠0:=by rw[<-hz];intro e;have:=congrArg Int.natAbs e;rw[cV] at this;simp at this;omega
 have hw:Wc w (.agg #[.bool b,.slice ad n c]) (sg b N):=by
  have:=Wc.sg (neg:=b) h1 hp
  exact this
 rw[hz] at hw
 exact⟨b,ad,n,c,ae,m,d,rfl,hw,by rw[tD (IC hne),<-hd];exact h2⟩
theorem AU {b:Bool} {N:Nat} (h:N=0):sz (sg b N)=0:=by subst h;rw[eu];rfl
theorem AO {b:Bool} {N:Nat} (h:N≠0):sz (sg b N)≠0:=by
 unfold sz sg
 cases b <;> simp <;> (repeat' split) <;> omega
theorem B3 {z:Int}:sz z=0↔z=0:=by
 unfold sz;split <;> (try split) <;> simp_all
theorem mg {x:Int} (h:x≠0):decide (x=0)=false:=decide_eq_false h
def ah (q:Rat) (k:Nat):Prop:=Lim q.num.natAbs k/\Lim q.den k
theorem Lim.one {k:Nat} (hk:1<=k):Lim 1 k:=Nat.lt_of_lt_of_le (by decide:1<B32^1) (Nat.pow_le_pow_right aN hk)
theorem fJ {a b k:Nat} (h:Lim a k):Lim (a/b) k:=h.le (Nat.div_le_self a b)
theorem A6 (b1 b2:Bool) (N M:Nat) (hM:M≠0):sg (b1 !=b2) (N/Nat.gcd N M)=((sg b1 N:Rat)/(sg b2 M:Rat)).num /\(N/Nat.gcd N M≠0->M/Nat.gcd N M=((sg b1 N:Rat)/(sg b2 M:Rat)).den):=by
 have e:((sg b1 N:Rat)/(sg b2 M:Rat))=mkRat (sg (b1 !=b2) N) M:=by
  rw[<-Rat.divInt_eq_div]
  cases b1 <;> cases b2 <;> simp[sg,Rat.divInt_neg',Rat.divInt_ofNat]
 rw[e,Rat.num_mkRat,Rat.den_mkRat,if_neg hM,if_neg hM,cV,Nat.gcd_comm M N]
 refine⟨?_,fun _=>rfl⟩
 have hg:=Nat.gcd_dvd_left N M
 obtain⟨t,ht⟩:=hg
 generalize Nat.gcd N M=g at*
 subst ht
 by_cases hg0:g=0
 ·subst hg0;simp[sg]
 ·have hgp:0<g:=by omega
  rw[Nat.mul_div_cancel_left t hgp]
  unfold sg
  split
  ·have:(-(((g*t:Nat):Int)))=(g:Int)*(-(t:Int)):=by rw[Int.mul_neg];simp
   rw[this,Int.mul_ediv_cancel_left _ (by omega)]
  ·have:(((g*t:Nat):Int))=(g:Int)*(t:Int):=by simp
   rw[this,Int.mul_ediv_cancel_left _ (by omega)]
theorem jh (z:Int):sg (decide (z<0)) z.natAbs=z:=rV z
theorem xu (b:Bool) (N g:Nat):(sg b N).tdiv (g:Int)=sg b (N/g):=by
 unfold sg;cases b <;> simp
theorem GC (b:Bool) {N g:Nat} (h:g ∣ N):sg b N/(g:Int)=sg b (N/g):=by
 obtain⟨t,rfl⟩:=h
 by_cases hg0:g=0
 ·subst hg0;simp[sg]
 ·have hgp:0<g:=by omega
  rw[Nat.mul_div_cancel_left t hgp]
  unfold sg
  split
  ·have:(-(((g*t:Nat):Int)))=(g:Int)*(-(t:Int)):=by rw[Int.mul_neg];simp
   rw[this,Int.mul_ediv_cancel_left _ (by omega)]
  ·have:(((g*t:Nat):Int))=(g:Int)*(t:Int):=by simp
   rw[this,Int.mul_ediv_cancel_left _ (by omega)]
theorem Aj (a b:Rat):
 sg (decide (a.num*((b.den/Nat.gcd a.den b.den:Nat):Int)+b.num*((a.den/Nat.gcd a.den b.den:Nat):Int)<0)) ((a.num*((b.den/Nat.gcd a.den b.den:Nat):Int)+b.num*((a.den/Nat.gcd a.den b.den:Nat):Int)).natAbs /Nat.gcd (a.num*((b.den/Nat.gcd a.den b.den:Nat):Int)+b.num*((a.den/Nat.gcd a.den b.den:Nat):Int)).natAbs (Nat.gcd a.den b.den))=(a+b).num /\
 (a.den/Nat.gcd a.den b.den)*(b.den/Nat.gcd (a.num*((b.den/Nat.gcd a.den b.den:Nat):Int)+b.num*((a.den/Nat.gcd a.den b.den:Nat):Int)).natAbs (Nat.gcd a.den b.den))=(a+b).den :=by
 have haux:=Rat.add.aux a b (g:=Nat.gcd a.den b.den) (ad:=a.den/Nat.gcd a.den b.den) (bd:=b.den/Nat.gcd a.den b.den) rfl rfl rfl
 dsimp only at haux
 have hg:Nat.gcd a.den b.den≠0:=Nat.gcd_ne_zero_left a.den_nz
 have e1:a.den/Nat.gcd a.den b.den*Nat.gcd a.den b.den=a.den:=Nat.div_mul_cancel (Nat.gcd_dvd_left _ _)
 have e2:b.den/Nat.gcd a.den b.den*Nat.gcd a.den b.den=b.den:=Nat.div_mul_cancel (Nat.gcd_dvd_right _ _)
 have hd2:Nat.gcd a.den b.den ∣ b.den:=Nat.gcd_dvd_right _ _
 have hd0:a.den/Nat.gcd a.den b.den*b.den≠0:=Nat.mul_ne_zero (fun e=>a.den_nz (by rw[<-e1,e,Nat.zero_mul])) b.den_nz
 have key:a+b=mkRat (a.num*((b.den/Nat.gcd a.den b.den:Nat):Int)+b.num*((a.den/Nat.gcd a.den b.den:Nat):Int)) (a.den/Nat.gcd a.den b.den*b.den):=by
  rw[Rat.add_def',<-Rat.mkRat_mul_right hg (n:=a.num*((b.den/Nat.gcd a.den b.den:Nat):Int)+b.num*((a.den/Nat.gcd a.den b.den:Nat):Int))]
  congr 1
  ·rw[Int.add_mul,Int.mul_assoc,Int.mul_assoc,Int.ofNat_mul_ofNat,Int.ofNat_mul_ofNat,e1,e2]
  ·rw[Nat.mul_right_comm,e1]
 generalize a.num*((b.den/Nat.gcd a.den b.den:Nat):Int)+b.num*((a.den/Nat.gcd a.den b.den:Nat):Int)=S at*
 generalize Nat.gcd a.den b.den=g at*
 rw[key,Rat.num_mkRat,Rat.den_mkRat,if_neg hd0,if_neg hd0,Nat.gcd_comm _ S.natAbs,<-haux]
 refine⟨?_,?_⟩
 ·have:=GC (decide (S<0)) (Nat.gcd_dvd_left S.natAbs g)
  rw[jh] at this
  exact this.symm
 ·rw[Nat.mul_div_assoc _ (Nat.dvd_trans (Nat.gcd_dvd_right S.natAbs g) hd2)]
theorem AL (a b:Rat):
 sg (decide (a.num<0) !=decide (b.num<0)) (a.num.natAbs/Nat.gcd a.num.natAbs b.den*(b.num.natAbs/Nat.gcd b.num.natAbs a.den))=(a*b).num /\
 a.den/Nat.gcd b.num.natAbs a.den*(b.den/Nat.gcd a.num.natAbs b.den)=(a*b).den :=by
 have e1:(a*b).num =a.num.tdiv (Nat.gcd a.num.natAbs b.den:Nat)*b.num.tdiv (Nat.gcd b.num.natAbs a.den:Nat):=by
  show(Rat.mul a b).num =_
  delta Rat.mul
  simp only [Int.divExact_eq_tdiv]
 have e2:(a*b).den =a.den/Nat.gcd b.num.natAbs a.den*(b.den/Nat.gcd a.num.natAbs b.den):=by
  show(Rat.mul a b).den =_
  delta Rat.mul
  simp only [Nat.divExact_eq_div]
 refine⟨?_,e2.symm⟩
 rw[e1]
 have h1:=xu (decide (a.num<0)) a.num.natAbs (Nat.gcd a.num.natAbs b.den)
 have h2:=xu (decide (b.num<0)) b.num.natAbs (Nat.gcd b.num.natAbs a.den)
 rw[jh] at h1 h2
 rw[h1,h2,<-uk]
 rfl
theorem nF {a:Rat} (h:a≠0):sg (decide (a.num<0)) a.den=(a⁻¹).num /\a.num.natAbs=(a⁻¹).den :=by
 have hn:=BE h
 rw[Rat.num_inv,Rat.den_inv,if_neg hn]
 refine⟨?_,rfl⟩
 unfold sg
 by_cases hl:a.num<0
 ·rw[if_pos (by simpa using hl),Int.sign_eq_neg_one_of_neg hl];omega
 ·rw[if_neg (by simpa using hl),Int.sign_eq_one_of_pos (by omega)];omega
theorem lV {z:Int} {d k:Nat} (h1:Lim z.natAbs k) (h2:Lim d k) (hd:d≠0):ah (mkRat z d) k:=by
 refine⟨h1.le ?_,h2.le ?_⟩
 ·rw[Rat.num_mkRat,if_neg hd,Int.natAbs_ediv_of_dvd (by rw[Int.ofNat_dvd_left];exact Nat.gcd_dvd_right _ _)]
  exact Nat.div_le_self _ _
 ·rw[Rat.den_mkRat,if_neg hd];exact Nat.div_le_self _ _
theorem ah.up {q:Rat} {a:Nat} (h:ah q a) (b:Nat) (hl:a<=b):ah q b:=⟨h.1.up b hl,h.2.up b hl⟩
theorem ah.pos {q:Rat} {a:Nat} (h:ah q a):1<=a:=by
 by_cases e:a=0
 ·subst e
  have h2:=h.2
  unfold Lim at h2
  have:=q.den_pos
  rw[Nat.pow_zero] at h2
  omega
 ·omega
theorem a6 {a b:Rat} {k l:Nat} (h1:ah a k) (h2:ah b l):ah (a+b) (k+l+1):=by
 rw[Rat.add_def']
 refine lV ?_ ((h1.2.mul h2.2).up _ (by omega)) (Nat.mul_ne_zero a.den_nz b.den_nz)
 refine ff (a:=k+l) (b:=k+l) ?_ ?_ _ (by omega) (by omega)
 ·rw[Int.natAbs_mul];exact h1.1.mul h2.2
 ·rw[Int.natAbs_mul];exact(h2.1.mul h1.2).up _ (by omega)
theorem eF {a:Rat} {k:Nat} (h:ah a k):ah (-a) k:=⟨by rw[Rat.neg_num,Int.natAbs_neg];exact h.1,h.2⟩
theorem bH {a b:Rat} {k l:Nat} (h1:ah a k) (h2:ah b l):ah (a-b) (k+l+1):=by
 rw[Rat.sub_eq_add_neg];exact a6 h1 (eF h2)
theorem aL {a b:Rat} {k l:Nat} (h1:ah a k) (h2:ah b l):ah (a*b) (k+l):=by
 rw[Rat.mul_def']
 exact lV (by rw[Int.natAbs_mul];exact h1.1.mul h2.1) (h1.2.mul h2.2) (Nat.mul_ne_zero a.den_nz b.den_nz)
theorem pp {a:Rat} {k:Nat} (h:ah a k):ah a⁻¹ k:=by
 by_cases h0:a=0
 ·subst h0;rw[Rat.inv_zero];exact h
 ·obtain⟨e1,e2⟩:=nF h0
  exact⟨by rw[<-e1,cV];exact h.2,by rw[<-e2];exact h.1⟩
theorem cU {a b:Rat} {k l:Nat} (h1:ah a k) (h2:ah b l):ah (a/b) (k+l):=by
 rw[Rat.div_def];exact aL h1 (pp h2)
theorem ce {z:Int} {k:Nat} (h:Lim z.natAbs k) (hk:1<=k):ah (z:Rat) k:=⟨h,Lim.one hk⟩
theorem f8 {k:Nat} (hk:1<=k):ah 0 k:=⟨Nat.lt_of_lt_of_le (by decide:0<B32^1) (Nat.pow_le_pow_right aN hk),Lim.one hk⟩
theorem fp {a:Rat} {k:Nat} (h:ah a k):ah a.abs k:=by
 unfold Rat.abs;split
 ·exact h
 ·exact eF h
end
section
theorem Dg.cl {k:IntKind} {b n:Nat} (v:Value):Cl fun w=>Dg w k b v n:=fun _ _ h kp=>Dg.keep h kp
theorem Rq.cl {q:Rat} (v:Value):Cl fun w=>Rq w v q:=fun _ _ h kp=>h.keep kp
theorem Wc.cl {z:Int} (v:Value):Cl fun w=>Wc w v z:=fun _ _ h kp=>h.keep kp
theorem aa:Ty Tryz.prog 33 3 [.bool false,.slice none 0 0,.slice none 0 0]:=⟨⟨_,Tryz.underlying33,rfl⟩,di,j2⟩
theorem aV:Ty Tryz.prog 31 2 [.bool false,.slice none 0 0]:=⟨⟨_,Tryz.underlying31,rfl⟩,lv,nv⟩
theorem lK:Ty Tryz.prog 161 2 [.bool false,.slice none 0 0]:=⟨⟨_,Tryz.underlying161,rfl⟩,mO,BS⟩
end
section
def qc (a b:Rat):Int:=ci (a.num*(b.den:Int)) (b.num*(a.den:Int))
theorem Rz.nat {w:World} {s:Value} {d:Nat} (h:Dg w .i64 65536 s d):Rz w (.agg #[.bool false,s]) ((d:Nat):Int):=by
 refine⟨s,?_,by simpa using h⟩
 rw[decide_eq_false (by omega)]
theorem bR {N k:Nat} (h:Lim N k):Lim ((N:Nat):Int).natAbs k:=by rw[Int.natAbs_natCast];exact h
theorem vr (v:Value) (N:Nat) (w:World) (h:Dg w .u32 B32 v N) (hl:dl B32 N<=1073741824):CP 68 #[v] w (gT w N):=by
 have h2:=sM v (dg B32 N) w h (bM aC N) (by rw[aq];exact hl)
 rw[bJ aC] at h2
 exact h2
theorem Rz.zero (w:World):Rz w (.agg #[.bool false,.slice none 0 0]) 0:=⟨_,rfl,Dg.zero _ _ _ _ (by unfold maxLen;omega) (fun _=>rfl)⟩
theorem Rz.neg {w:World} {b:Bool} {a:Value} {z:Int} (h:Rz w (.agg #[.bool b,a]) z):b=decide (z<0):=by
 obtain⟨a',h1,h2⟩:=h
 injection h1 with h1
 simp only [Array.mk.injEq,List.cons.injEq,and_true,Value.bool.injEq] at h1
 exact h1.1
def Rr (w:World) (v:Value) (q:Rat) (k:Nat):Prop:=
 ∃b ad n c ae m d z D,v= .agg #[.bool b,.slice ad n c,.slice ae m d]/\Rz w (.agg #[.bool b,.slice ad n c]) z/\Dg w .i64 65536 (.slice ae m d) D/\0<D/\q=mkRat z D/\Lim z.natAbs k/\Lim D k
def bh (w:World) (q:Rat) (k:Nat) (e:Ending) (w':World):Prop:=∃v,e= .returned v/\Rr w' v q k/\Below w.heap.size w w'
theorem Rr.shape {w:World} {v:Value} {q:Rat} {k:Nat} (h:Rr w v q k):∃b ad n c ae m d z D,v= .agg #[.bool b,.slice ad n c,.slice ae m d]/\Rz w (.agg #[.bool b,.slice ad n c]) z/\Dg w .i64 65536 (.slice ae m d) D/\0<D/\q=mkRat z D/\Lim z.natAbs k/\Lim D k:=h
theorem Rr.form {w:World} {v:Value} {q:Rat} {k:Nat} (h:Rr w v q k):∃b ad n c ae m d,v= .agg #[.bool b,.slice ad n c,.slice ae m d]:=by
 obtain⟨b,ad,n,c,ae,m,d,z,D,h1,_⟩:=h
 exact⟨b,ad,n,c,ae,m,d,h1⟩
theorem Rr.below {w w':World} {v:Value} {q:Rat} {k:Nat} (h:Rr w v q k) (hb:Below w.heap.size w w'):Rr w' v q k:=by
 obtain⟨b,ad,n,c,ae,m,d,z,D,h1,h2,h3,h4⟩:=h
 exact⟨b,ad,n,c,ae,m,d,z,D,h1,h2.below hb,h3.below hb,h4⟩
def Ir (q:Rat) (k:Nat):World->Value->Prop:=fun w v=>Rr w v q k
instance mbr {q:Rat} {k:Nat}:MbI (Ir q k):=⟨fun _ _ _ h hb=>Rr.below h hb⟩
theorem Rr.fo {w:World} {v:Value} {q:Rat} {k:Nat} (h:Rr w v q k):∃r:R7,v=r.v:=by
 obtain⟨b,x,n,c,y,m,d,e⟩:=h.form
 exact⟨⟨b,x,n,c,y,m,d⟩,e⟩
instance mby {z:Int}:MbI (fun w v=>Rz w v z):=⟨fun _ _ _ h hb=>Rz.below h hb⟩
theorem Rr.keep {w w':World} {v:Value} {q:Rat} {k:Nat} (h:Rr w v q k) (kp:dr w w'):Rr w' v q k:=by
 obtain⟨b,ad,n,c,ae,m,d,z,D,h1,h2,h3,h4⟩:=h
 exact⟨b,ad,n,c,ae,m,d,z,D,h1,h2.keep kp,h3.keep kp,h4⟩
theorem Rr.mk {w:World} {b:Bool} {ad ae:Option Addr} {n c m d:Nat} {z:Int} {D:Nat} {q:Rat} {k:Nat} (h1:Rz w (.agg #[.bool b,.slice ad n c]) z) (h2:Dg w .i64 65536 (.slice ae m d) D) (hD:0<D) (hq:q=mkRat z D) (l1:Lim z.natAbs k) (l2:Lim D k):
 Rr w (.agg #[.bool b,.slice ad n c,.slice ae m d]) q k:=⟨b,ad,n,c,ae,m,d,z,D,rfl,h1,h2,hD,hq,l1,l2⟩
theorem Rr.up {w:World} {v:Value} {q:Rat} {k:Nat} (h:Rr w v q k) (j:Nat) (hj:k<=j):Rr w v q j:=by
 obtain⟨b,ad,n,c,ae,m,d,z,D,h1,h2,h3,h4,h5,h6,h7⟩:=h
 exact⟨b,ad,n,c,ae,m,d,z,D,h1,h2,h3,h4,h5,h6.up j hj,h7.up j hj⟩
theorem Rr.cast {w:World} {v:Value} {q q':Rat} {k:Nat} (h:Rr w v q k) (e:q=q'):Rr w v q' k:=by subst e;exact h
theorem vp (w:World):∃v w',(Instr.buildSlice 41 1 #[(0,iv 1)]).run Tryz.prog w= .ok v w'/\Below w.heap.size w w'/\Dg w' .i64 65536 v 1:=by
 refine⟨.slice (some ⟨w.heap.size,0,none⟩) 1 1,w.alloc (.cells #[iv 1] 3),?_,(Below.refl _ _).alloc (Nat.le_refl _) _,?_⟩
 ·have hs:=aH (P:=Tryz.prog) (T:=3) (n:=1) (by kernel_rfl) w
  simp[Instr.buildSlice,go_sem,hs,Instr.fill,Value.cells,newRow]
 ·have e:dg 65536 1=[1]:=by decide+kernel
  unfold Dg
  rw[e]
  refine⟨some ⟨w.heap.size,0,none⟩,1,rfl,⟨fun i hi=>?_⟩,by simp,by unfold maxLen;omega,by simp,fun h=>by cases h⟩
  have h0:i=0:=by simp at hi;omega
  subst h0
  refine⟨w.heap.size,0,rfl,by simp,?_⟩
  rw[cell_of_row _ w.heap.size 0 #[iv 1] 3 (0,0) (heap_alloc_new w _)]
  rfl
theorem Ks (z y:Int) (h:y≠0):mkRat (sg (decide (z<0) !=decide (y<0)) z.natAbs) y.natAbs=(z:Rat)/(y:Rat):=by
 rw[<-Rat.divInt_eq_div]
 have hz:z=sg (decide (z<0)) z.natAbs:=(rV z).symm
 generalize hb:decide (z<0)=b at*
 rcases Int.lt_or_gt_of_ne h with h'|h'
 ·obtain⟨m,rfl⟩:∃m:Nat,y= -(m:Int):=⟨y.natAbs,by omega⟩
  rw[decide_eq_true h',Rat.divInt_neg',Rat.divInt_ofNat,Int.natAbs_neg,Int.natAbs_natCast]
  congr 1
  generalize z.natAbs=N at*
  subst hz
  cases b <;> simp[sg]
 ·obtain⟨m,rfl⟩:∃m:Nat,y=(m:Int):=⟨y.natAbs,by omega⟩
  rw[decide_eq_false (by omega),Rat.divInt_ofNat,Int.natAbs_natCast]
  congr 1
  generalize z.natAbs=N at*
  subst hz
  cases b <;> simp[sg]
theorem Hj {z1 z2:Int} {d1 d2:Nat} (h1:0<d1) (h2:0<d2):((z1*(d2:Int)+z2*(d1:Int):Int):Rat)/(((d1:Int)*(d2:Int):Int):Rat)=mkRat z1 d1+mkRat z2 d2:=by
 rw[Rat.mkRat_add_mkRat _ _ (by omega) (by omega),<-Rat.divInt_eq_div,Int.ofNat_mul_ofNat,Rat.divInt_ofNat]
theorem HJ {z1 z2:Int} {d1 d2:Nat} (h1:0<d1) (h2:0<d2):((z1*z2:Int):Rat)/(((d1*d2:Nat):Int):Rat)=mkRat z1 d1*mkRat z2 d2:=by
 rw[Rat.mkRat_mul_mkRat,<-Rat.divInt_eq_div,Rat.divInt_ofNat]
theorem Hy {z1 z2:Int} {d1 d2:Nat} (h1:0<d1) (h2:0<d2):((z1*(d2:Int):Int):Rat)/(((d1:Int)*z2:Int):Rat)=mkRat z1 d1/mkRat z2 d2:=by
 have e1:mkRat z1 d1=Rat.divInt z1 (d1:Int):=(Rat.divInt_ofNat z1 d1).symm
 have e2:mkRat z2 d2=Rat.divInt z2 (d2:Int):=(Rat.divInt_ofNat z2 d2).symm
 rw[e1,e2,Rat.div_def (Rat.divInt z1 (d1:Int)),Rat.inv_divInt,Rat.divInt_mul_divInt,Rat.divInt_eq_div]
theorem LG {z:Int} {d:Nat} (h:0<d):sz z=sz (mkRat z d).num :=by
 rw[Rat.num_mkRat,if_neg (by omega)]
 have hg:Nat.gcd d z.natAbs ∣ z.natAbs:=Nat.gcd_dvd_right _ _
 have hp:0<Nat.gcd d z.natAbs:=Nat.gcd_pos_of_pos_left _ h
 obtain⟨t,ht⟩:((Nat.gcd d z.natAbs:Nat):Int) ∣ z:=Int.ofNat_dvd_left.2 hg
 generalize Nat.gcd d z.natAbs=g at*
 subst ht
 rw[Int.mul_ediv_cancel_left _ (by omega)]
 unfold sz
 rcases Int.lt_trichotomy t 0 with h1|h1|h1
 ·have:=Int.mul_neg_of_pos_of_neg (show(0:Int)<g by omega) h1
  rw[if_neg (by omega),if_pos this,if_neg (by omega),if_pos h1]
 ·subst h1;simp
 ·have:=Int.mul_pos (show(0:Int)<g by omega) h1
  rw[if_neg (by omega),if_neg (by omega),if_neg (by omega),if_neg (by omega)]
theorem tM {z1 z2:Int} {d1 d2:Nat} (h1:0<d1) (h2:0<d2):z1*(d2:Int)<z2*(d1:Int)↔mkRat z1 d1<mkRat z2 d2:=by
 have e1:=Rat.mkRat_eq_div z1 d1
 have e2:=Rat.mkRat_eq_div z2 d2
 have p1:(0:Rat)<(d1:Rat):=Rat.natCast_pos.2 h1
 have p2:(0:Rat)<(d2:Rat):=Rat.natCast_pos.2 h2
 rw[e1,e2,Rat.div_lt_iff p1,<-Rat.intCast_lt_intCast,Rat.intCast_mul,Rat.intCast_mul,Rat.intCast_natCast,Rat.intCast_natCast]
 rw[show(z2:Rat)/(d2:Rat)*(d1:Rat)=(z2*(d1:Rat))/(d2:Rat) by rw[Rat.div_def,Rat.div_def,Rat.mul_assoc,Rat.mul_assoc,Rat.mul_comm (d2:Rat)⁻¹]]
 rw[Rat.lt_div_iff p2]
theorem DL {z1 z2:Int} {d1 d2:Nat} (h1:0<d1) (h2:0<d2):ci (z1*(d2:Int)) (z2*(d1:Int))=qc (mkRat z1 d1) (mkRat z2 d2):=by
 have a:=tM (z1:=z1) (z2:=z2) h1 h2
 have b:=tM (z1:=z2) (z2:=z1) h2 h1
 have c:=Rat.lt_iff (mkRat z1 d1) (mkRat z2 d2)
 have d:=Rat.lt_iff (mkRat z2 d2) (mkRat z1 d1)
 unfold qc ci
 simp only [<-c,<-d,a,b]
end
section
theorem Rr.cl {q:Rat} {k:Nat} (v:Value):Cl fun w=>Rr w v q k:=fun _ _ h kp=>h.keep kp
theorem Rz.cl {z:Int} (v:Value):Cl fun w=>Rz w v z:=fun _ _ h kp=>h.keep kp
theorem ab:Ty Tryz.prog 45 3 [.bool false,.slice none 0 0,.slice none 0 0]:=⟨⟨_,Tryz.underlying45,rfl⟩,jL,jS⟩
theorem aI:Ty Tryz.prog 43 2 [.bool false,.slice none 0 0]:=⟨⟨_,Tryz.underlying43,rfl⟩,lQ,lU⟩
end
end
end Go.Proofs.YtgdpkknapcgcbaaGreatDoor
