import Derived.Test.YtgdpkknapcgcbaaGreatDoorKD10
import Derived.Deep.RegionHeld3
import Derived.Deep.LoopGhost
namespace Go.Proofs.YtgdpkknapcgcbaaGreatDoor
open Go.RowKit
set_option maxRecDepth 100000
set_option linter.unusedVariables false
set_option maxHeartbeats 8000000
section
section
end
section
end
section
end
section
end
section
end
section
end
end
section
section
variable {P:Program} {ops:Array Oper} {Q:Exit->Act->World->Prop}
end
theorem Wz.form {w:World} {v:Value} {z:Int} (h:Wz w v z):∃(b:Bool) (ad:Option Addr) (n cap:Nat),v= .agg #[.bool b,.slice ad n cap]:=by
 obtain⟨b,ad,n,cap,_,h1,_⟩:=h.shape
 exact⟨b,ad,n,cap,h1⟩
end
theorem sx {x y:Int} {a b:Nat} (h1:Lim x.natAbs a) (h2:Lim y.natAbs b) (c:Nat) (ha:a<c) (hb:b<c):Lim (x+y).natAbs c:=(h1.add h2 c ha hb).le (Int.natAbs_add_le x y)
theorem jn {x y:Int} {a b:Nat} (h1:Lim x.natAbs a) (h2:Lim y.natAbs b):Lim (x*y).natAbs (a+b):=by rw[Int.natAbs_mul];exact h1.mul h2
theorem Dg.form {w:World} {k:IntKind} {b:Nat} {v:Value} {n:Nat} (h:Dg w k b v n):∃ad m c,v= .slice ad m c:=by
 obtain⟨ad,cap,rfl,_⟩:=h
 exact⟨ad,_,cap,rfl⟩
theorem Nt.form {w:World} {v:Value} {n:Nat} (h:Nt w v n):∃ad m c,v= .slice ad m c:=h.shape
theorem Dg.keep {w w':World} {k:IntKind} {b:Nat} {v:Value} {n:Nat} (h:Dg w k b v n) (kp:dY w w'):Dg w' k b v n:=kp.dg h
theorem Wc.keep {w w':World} {v:Value} {z:Int} (h:Wc w v z) (kp:dY w w'):Wc w' v z:=kp.wc h
theorem Wc.abs {w:World} {b:Bool} {a:Value} {z:Int} (h:Wc w (.agg #[.bool b,a]) z):Dg w .u32 B32 a z.natAbs:=by
 obtain⟨a',h1,h2⟩:=h
 injection h1 with h1
 simp only [Array.mk.injEq,List.cons.injEq,and_true] at h1
 obtain⟨_,rfl⟩:=h1
 exact h2
theorem Wc.neg {w:World} {b:Bool} {a:Value} {z:Int} (h:Wc w (.agg #[.bool b,a]) z):b=decide (z<0):=by
 obtain⟨a',h1,h2⟩:=h
 injection h1 with h1
 simp only [Array.mk.injEq,List.cons.injEq,and_true,Value.bool.injEq] at h1
 exact h1.1
theorem Wz.abso {w:World} {b:Bool} {a:Value} {z:Int} (h:Wz w (.agg #[.bool b,a]) z):Nt w a z.natAbs:=by
 obtain⟨b',a',N,h1,h2,h3⟩:=h
 injection h1 with h1
 simp only [Array.mk.injEq,List.cons.injEq,and_true] at h1
 obtain⟨_,rfl⟩:=h1
 rw[h3,de];exact h2
def Wg (w:World) (v:Value) (b:Bool) (N:Nat):Prop:=∃s,v= .agg #[.bool b,s]/\Dg w .u32 B32 s N
theorem Wg.mk {w:World} {s:Value} {b:Bool} {N:Nat} (h:Dg w .u32 B32 s N):Wg w (.agg #[.bool b,s]) b N:=⟨s,rfl,h⟩
theorem Wg.below {w w':World} {v:Value} {b:Bool} {N:Nat} (h:Wg w v b N) (hb:Below w.heap.size w w'):Wg w' v b N:=by
 obtain⟨s,rfl,h⟩:=h;exact⟨s,rfl,h.below hb⟩
theorem Wg.wz {w:World} {v:Value} {b:Bool} {N:Nat} (h:Wg w v b N):Wz w v (sg b N):=by
 obtain⟨s,rfl,h⟩:=h;exact⟨b,s,N,rfl,h.nt,rfl⟩
theorem Wz.mk {w:World} {s:Value} {b:Bool} {N:Nat} (h:Nt w s N):Wz w (.agg #[.bool b,s]) (sg b N):=⟨b,s,N,rfl,h,rfl⟩
theorem Dg.nil (w:World):Dg w .u32 B32 (.slice none 0 0) 0:=Dg.zero _ _ _ _ (by unfold maxLen;omega) (fun _=>rfl)
theorem lR {N k:Nat} (b:Bool) (h:Lim N k):Lim (sg b N).natAbs k:=by rw[de];exact h
theorem eq0 {x:Int} (h:x=0):decide (x=0)=true:=by subst h;rfl
section
section
theorem Dg.len {w:World} {k:IntKind} {b:Nat} {ad:Option Addr} {m c N:Nat} (h:Dg w k b (.slice ad m c) N):m=dl b N:=by
 obtain⟨ad',cap,h1,_⟩:=h
 rw[av] at h1
 injection h1
theorem Dg.len0 {w:World} {k:IntKind} {b:Nat} {ad:Option Addr} {m c:Nat} (h:Dg w k b (.slice ad m c) 0):m=0:=by rw[h.len,gk]
theorem Dg.lenp {w:World} {k:IntKind} {b:Nat} (hb:2<=b) {ad:Option Addr} {m c N:Nat} (h:Dg w k b (.slice ad m c) N) (hN:0<N):0<m:=by rw[h.len];exact fB hb hN
theorem Wc.cast {w:World} {v:Value} {z z':Int} (h:Wc w v z) (e:z=z'):Wc w v z':=by subst e;exact h
def dn (q:Rat):Nat:=if q=0 then 0 else q.den
theorem uT:dn 0=0:=if_pos rfl
theorem rp {q:Rat} (h:q≠0):dn q=q.den:=if_neg h
def Rq (w:World) (v:Value) (q:Rat):Prop:=
 ∃b ad n c ae m d,v= .agg #[.bool b,.slice ad n c,.slice ae m d]/\Wc w (.agg #[.bool b,.slice ad n c]) q.num/\Dg w .u32 B32 (.slice ae m d) (dn q)
def yi (w:World) (q:Rat) (e:Ending) (w':World):Prop:=∃v,e= .returned v/\Rq w' v q/\Below w.heap.size w w'
theorem Rq.shape {w:World} {v:Value} {q:Rat} (h:Rq w v q):∃b ad n c ae m d,v= .agg #[.bool b,.slice ad n c,.slice ae m d]/\Wc w (.agg #[.bool b,.slice ad n c]) q.num/\Dg w .u32 B32 (.slice ae m d) (dn q):=h
theorem Rq.form {w:World} {v:Value} {q:Rat} (h:Rq w v q):∃b ad n c ae m d,v= .agg #[.bool b,.slice ad n c,.slice ae m d]:=by
 obtain⟨b,ad,n,c,ae,m,d,h1,_⟩:=h
 exact⟨b,ad,n,c,ae,m,d,h1⟩
theorem Rq.below {w w':World} {v:Value} {q:Rat} (h:Rq w v q) (hb:Below w.heap.size w w'):Rq w' v q:=by
 obtain⟨b,ad,n,c,ae,m,d,h1,h2,h3⟩:=h
 exact⟨b,ad,n,c,ae,m,d,h1,h2.below hb,h3.below hb⟩
abbrev CQ (f:FuncId) (xs:Array Value) (w:World) (q:Rat):Prop:=Calls Tryz.prog f xs w (yi w q)
def Iq (q:Rat):World->Value->Prop:=fun w v=>Rq w v q
instance mbq {q:Rat}:MbI (Iq q):=⟨fun _ _ _ h hb=>Rq.below h hb⟩
theorem Rq.fo {w:World} {v:Value} {q:Rat} (h:Rq w v q):∃r:R7,v=r.v:=by
 obtain⟨b,x,n,c,y,m,d,e⟩:=h.form
 exact⟨⟨b,x,n,c,y,m,d⟩,e⟩
instance mbd {k:IntKind} {b n:Nat}:MbI (fun w v=>Dg w k b v n):=⟨fun _ _ _ h hb=>Dg.below h hb⟩
instance mbw {z:Int}:MbI (fun w v=>Wc w v z):=⟨fun _ _ _ h hb=>Wc.below h hb⟩
instance mbx {z:Int}:MbI (fun w v=>Wz w v z):=⟨fun _ _ _ h hb=>Wz.below h hb⟩
instance mbg {b:Bool} {n:Nat}:MbI (fun w v=>Wg w v b n):=⟨fun _ _ _ h hb=>Wg.below h hb⟩
theorem Rq.keep {w w':World} {v:Value} {q:Rat} (h:Rq w v q) (kp:dY w w'):Rq w' v q:=by
 obtain⟨b,ad,n,c,ae,m,d,h1,h2,h3⟩:=h
 exact⟨b,ad,n,c,ae,m,d,h1,h2.keep kp,h3.keep kp⟩
theorem FX {q:Rat} (h:q.num≠0):q≠0:=fun e=>h (by rw[e];rfl)
theorem zj {q:Rat} (h:q≠0):q.num≠0:=fun e=>h (Rat.num_eq_zero.1 e)
theorem Rq.zero (w:World):Rq w (.agg #[.bool false,.slice none 0 0,.slice none 0 0]) 0:=
 ⟨false,none,0,0,none,0,0,rfl,Wc.zero w,by rw[uT];exact Dg.nil w⟩
theorem Rq.mk {w:World} {b:Bool} {ad ae:Option Addr} {n c m d N D:Nat} {q:Rat} (h1:Dg w .u32 B32 (.slice ad n c) N) (h2:Dg w .u32 B32 (.slice ae m d) D) (hN:N≠0) (hz:sg b N=q.num) (hd:D=q.den):
 Rq w (.agg #[.bool b,.slice ad n c,.slice ae m d]) q:=by
 have hp:0<N:=by omega
 have hne:q.num≠0:=by rw[<-hz];intro e;have:=congrArg Int.natAbs e;rw[de] at this;simp at this;omega
 have hw:Wc w (.agg #[.bool b,.slice ad n c]) (sg b N):=by
  have:=Wc.sg (neg:=b) h1 hp
  exact this
 rw[hz] at hw
 exact⟨b,ad,n,c,ae,m,d,rfl,hw,by rw[rp (FX hne),<-hd];exact h2⟩
theorem yp {b:Bool} {N:Nat} (h:N=0):sz (sg b N)=0:=by subst h;rw[et];rfl
theorem zm {b:Bool} {N:Nat} (h:N≠0):sz (sg b N)≠0:=by
 unfold sz sg
 cases b <;> simp <;> (repeat' split) <;> omega
theorem xG {z:Int}:sz z=0↔z=0:=by
 unfold sz;split <;> (try split) <;> simp_all
theorem wZ {x:Int} (h:x≠0):decide (x=0)=false:=decide_eq_false h
def ag (q:Rat) (k:Nat):Prop:=Lim q.num.natAbs k/\Lim q.den k
theorem Lim.one {k:Nat} (hk:1<=k):Lim 1 k:=Nat.lt_of_lt_of_le (by decide:1<B32^1) (Nat.pow_le_pow_right aN hk)
theorem fc {a b k:Nat} (h:Lim a k):Lim (a/b) k:=h.le (Nat.div_le_self a b)
theorem yv (b1 b2:Bool) (N M:Nat) (hM:M≠0):sg (b1 !=b2) (N/Nat.gcd N M)=((sg b1 N:Rat)/(sg b2 M:Rat)).num /\(N/Nat.gcd N M≠0->M/Nat.gcd N M=((sg b1 N:Rat)/(sg b2 M:Rat)).den):=by
 have e:((sg b1 N:Rat)/(sg b2 M:Rat))=mkRat (sg (b1 !=b2) N) M:=by
  rw[<-Rat.divInt_eq_div]
  cases b1 <;> cases b2 <;> simp[sg,Rat.divInt_neg',Rat.divInt_ofNat]
 rw[e,Rat.num_mkRat,Rat.den_mkRat,if_neg hM,if_neg hM,de,Nat.gcd_comm M N]
 refine⟨?_,fun _=>rfl⟩
 have hg:=Nat.gcd_dvd_left N M
 obtain⟨t,ht⟩:=hg
 generalize Nat.gcd N M=g at*
 subst ht
 by_cases hg0:g=0
 ·subst hg0;simp[sg]
 ·have hgp:0<g:=by omega
  rw[Nat.mul_div_cancel_left t hgp]
  unfold sg
  split
  ·have:(-(((g*t:Nat):Int)))=(g:Int)*(-(t:Int)):=by rw[Int.mul_neg];simp
   rw[this,Int.mul_ediv_cancel_left _ (by omega)]
  ·have:(((g*t:Nat):Int))=(g:Int)*(t:Int):=by simp
   rw[this,Int.mul_ediv_cancel_left _ (by omega)]
theorem oK (z:Int):sg (decide (z<0)) z.natAbs=z:=u6 z
theorem uI (b:Bool) (N g:Nat):(sg b N).tdiv (g:Int)=sg b (N/g):=by
 unfold sg;cases b <;> simp
theorem DI (b:Bool) {N g:Nat} (h:g ∣ N):sg b N/(g:Int)=sg b (N/g):=by
 obtain⟨t,rfl⟩:=h
 by_cases hg0:g=0
 ·subst hg0;simp[sg]
 ·have hgp:0<g:=by omega
  rw[Nat.mul_div_cancel_left t hgp]
  unfold sg
  split
  ·have:(-(((g*t:Nat):Int)))=(g:Int)*(-(t:Int)):=by rw[Int.mul_neg];simp
   rw[this,Int.mul_ediv_cancel_left _ (by omega)]
  ·have:(((g*t:Nat):Int))=(g:Int)*(t:Int):=by simp
   rw[this,Int.mul_ediv_cancel_left _ (by omega)]
theorem xW (a b:Rat):
 sg (decide (a.num*((b.den/Nat.gcd a.den b.den:Nat):Int)+b.num*((a.den/Nat.gcd a.den b.den:Nat):Int)<0)) ((a.num*((b.den/Nat.gcd a.den b.den:Nat):Int)+b.num*((a.den/Nat.gcd a.den b.den:Nat):Int)).natAbs /Nat.gcd (a.num*((b.den/Nat.gcd a.den b.den:Nat):Int)+b.num*((a.den/Nat.gcd a.den b.den:Nat):Int)).natAbs (Nat.gcd a.den b.den))=(a+b).num /\
 (a.den/Nat.gcd a.den b.den)*(b.den/Nat.gcd (a.num*((b.den/Nat.gcd a.den b.den:Nat):Int)+b.num*((a.den/Nat.gcd a.den b.den:Nat):Int)).natAbs (Nat.gcd a.den b.den))=(a+b).den :=by
 have haux:=Rat.add.aux a b (g:=Nat.gcd a.den b.den) (ad:=a.den/Nat.gcd a.den b.den) (bd:=b.den/Nat.gcd a.den b.den) rfl rfl rfl
 dsimp only at haux
 have hg:Nat.gcd a.den b.den≠0:=Nat.gcd_ne_zero_left a.den_nz
 have e1:a.den/Nat.gcd a.den b.den*Nat.gcd a.den b.den=a.den:=Nat.div_mul_cancel (Nat.gcd_dvd_left _ _)
 have e2:b.den/Nat.gcd a.den b.den*Nat.gcd a.den b.den=b.den:=Nat.div_mul_cancel (Nat.gcd_dvd_right _ _)
 have hd2:Nat.gcd a.den b.den ∣ b.den:=Nat.gcd_dvd_right _ _
 have hd0:a.den/Nat.gcd a.den b.den*b.den≠0:=Nat.mul_ne_zero (fun e=>a.den_nz (by rw[<-e1,e,Nat.zero_mul])) b.den_nz
 have key:a+b=mkRat (a.num*((b.den/Nat.gcd a.den b.den:Nat):Int)+b.num*((a.den/Nat.gcd a.den b.den:Nat):Int)) (a.den/Nat.gcd a.den b.den*b.den):=by
  rw[Rat.add_def',<-Rat.mkRat_mul_right hg (n:=a.num*((b.den/Nat.gcd a.den b.den:Nat):Int)+b.num*((a.den/Nat.gcd a.den b.den:Nat):Int))]
  congr 1
  ·rw[Int.add_mul,Int.mul_assoc,Int.mul_assoc,Int.ofNat_mul_ofNat,Int.ofNat_mul_ofNat,e1,e2]
  ·rw[Nat.mul_right_comm,e1]
 generalize a.num*((b.den/Nat.gcd a.den b.den:Nat):Int)+b.num*((a.den/Nat.gcd a.den b.den:Nat):Int)=S at*
 generalize Nat.gcd a.den b.den=g at*
 rw[key,Rat.num_mkRat,Rat.den_mkRat,if_neg hd0,if_neg hd0,Nat.gcd_comm _ S.natAbs,<-haux]
 refine⟨?_,?_⟩
 ·have:=DI (decide (S<0)) (Nat.gcd_dvd_left S.natAbs g)
  rw[oK] at this
  exact this.symm
 ·rw[Nat.mul_div_assoc _ (Nat.dvd_trans (Nat.gcd_dvd_right S.natAbs g) hd2)]
theorem xQ (a b:Rat):
 sg (decide (a.num<0) !=decide (b.num<0)) (a.num.natAbs/Nat.gcd a.num.natAbs b.den*(b.num.natAbs/Nat.gcd b.num.natAbs a.den))=(a*b).num /\
 a.den/Nat.gcd b.num.natAbs a.den*(b.den/Nat.gcd a.num.natAbs b.den)=(a*b).den :=by
 have e1:(a*b).num =a.num.tdiv (Nat.gcd a.num.natAbs b.den:Nat)*b.num.tdiv (Nat.gcd b.num.natAbs a.den:Nat):=by
  show(Rat.mul a b).num =_
  delta Rat.mul
  simp only [Int.divExact_eq_tdiv]
 have e2:(a*b).den =a.den/Nat.gcd b.num.natAbs a.den*(b.den/Nat.gcd a.num.natAbs b.den):=by
  show(Rat.mul a b).den =_
  delta Rat.mul
  simp only [Nat.divExact_eq_div]
 refine⟨?_,e2.symm⟩
 rw[e1]
 have h1:=uI (decide (a.num<0)) a.num.natAbs (Nat.gcd a.num.natAbs b.den)
 have h2:=uI (decide (b.num<0)) b.num.natAbs (Nat.gcd b.num.natAbs a.den)
 rw[oK] at h1 h2
 rw[h1,h2,<-xK]
 rfl
theorem mn {a:Rat} (h:a≠0):sg (decide (a.num<0)) a.den=(a⁻¹).num /\a.num.natAbs=(a⁻¹).den :=by
 have hn:=zj h
 rw[Rat.num_inv,Rat.den_inv,if_neg hn]
 refine⟨?_,rfl⟩
 unfold sg
 by_cases hl:a.num<0
 ·rw[if_pos (by simpa using hl),Int.sign_eq_neg_one_of_neg hl];omega
 ·rw[if_neg (by simpa using hl),Int.sign_eq_one_of_pos (by omega)];omega
theorem mU {z:Int} {d k:Nat} (h1:Lim z.natAbs k) (h2:Lim d k) (hd:d≠0):ag (mkRat z d) k:=by
 refine⟨h1.le ?_,h2.le ?_⟩
 ·rw[Rat.num_mkRat,if_neg hd,Int.natAbs_ediv_of_dvd (by rw[Int.ofNat_dvd_left];exact Nat.gcd_dvd_right _ _)]
  exact Nat.div_le_self _ _
 ·rw[Rat.den_mkRat,if_neg hd];exact Nat.div_le_self _ _
theorem ag.up {q:Rat} {a:Nat} (h:ag q a) (b:Nat) (hl:a<=b):ag q b:=⟨h.1.up b hl,h.2.up b hl⟩
theorem ag.pos {q:Rat} {a:Nat} (h:ag q a):1<=a:=by
 by_cases e:a=0
 ·subst e
  have h2:=h.2
  unfold Lim at h2
  have:=q.den_pos
  rw[Nat.pow_zero] at h2
  omega
 ·omega
theorem a9 {a b:Rat} {k l:Nat} (h1:ag a k) (h2:ag b l):ag (a+b) (k+l+1):=by
 rw[Rat.add_def']
 refine mU ?_ ((h1.2.mul h2.2).up _ (by omega)) (Nat.mul_ne_zero a.den_nz b.den_nz)
 refine sx (a:=k+l) (b:=k+l) ?_ ?_ _ (by omega) (by omega)
 ·rw[Int.natAbs_mul];exact h1.1.mul h2.2
 ·rw[Int.natAbs_mul];exact(h2.1.mul h1.2).up _ (by omega)
theorem fu {a:Rat} {k:Nat} (h:ag a k):ag (-a) k:=⟨by rw[Rat.neg_num,Int.natAbs_neg];exact h.1,h.2⟩
theorem bV {a b:Rat} {k l:Nat} (h1:ag a k) (h2:ag b l):ag (a-b) (k+l+1):=by
 rw[Rat.sub_eq_add_neg];exact a9 h1 (fu h2)
theorem aM {a b:Rat} {k l:Nat} (h1:ag a k) (h2:ag b l):ag (a*b) (k+l):=by
 rw[Rat.mul_def']
 exact mU (by rw[Int.natAbs_mul];exact h1.1.mul h2.1) (h1.2.mul h2.2) (Nat.mul_ne_zero a.den_nz b.den_nz)
theorem oa {a:Rat} {k:Nat} (h:ag a k):ag a⁻¹ k:=by
 by_cases h0:a=0
 ·subst h0;rw[Rat.inv_zero];exact h
 ·obtain⟨e1,e2⟩:=mn h0
  exact⟨by rw[<-e1,de];exact h.2,by rw[<-e2];exact h.1⟩
theorem cZ {a b:Rat} {k l:Nat} (h1:ag a k) (h2:ag b l):ag (a/b) (k+l):=by
 rw[Rat.div_def];exact aM h1 (oa h2)
theorem ch {z:Int} {k:Nat} (h:Lim z.natAbs k) (hk:1<=k):ag (z:Rat) k:=⟨h,Lim.one hk⟩
theorem ip {k:Nat} (hk:1<=k):ag 0 k:=⟨Nat.lt_of_lt_of_le (by decide:0<B32^1) (Nat.pow_le_pow_right aN hk),Lim.one hk⟩
theorem jj {a:Rat} {k:Nat} (h:ag a k):ag a.abs k:=by
 unfold Rat.abs;split
 ·exact h
 ·exact fu h
end
section
theorem Dg.cl {k:IntKind} {b n:Nat} (v:Value):Cl fun w=>Dg w k b v n:=fun _ _ h kp=>Dg.keep h kp
theorem Rq.cl {q:Rat} (v:Value):Cl fun w=>Rq w v q:=fun _ _ h kp=>h.keep kp
theorem Wc.cl {z:Int} (v:Value):Cl fun w=>Wc w v z:=fun _ _ h kp=>h.keep kp
theorem aa:Ty Tryz.prog 33 3 [.bool false,.slice none 0 0,.slice none 0 0]:=⟨⟨_,Tryz.underlying33,rfl⟩,gD,jx⟩
theorem aR:Ty Tryz.prog 31 2 [.bool false,.slice none 0 0]:=⟨⟨_,Tryz.underlying31,rfl⟩,kH,ma⟩
end
section
def qc (a b:Rat):Int:=ci (a.num*(b.den:Int)) (b.num*(a.den:Int))
end
section
end
end
end Go.Proofs.YtgdpkknapcgcbaaGreatDoor
