import Derived.Test.YtgdpkknapcgcbaaGreatDoorKC7
import Derived.Test.YtgdpkknapcgcbaaGreatDoorKC8
import Derived.Deep.RegionHeld3
namespace Go.Proofs.YtgdpkknapcgcbaaGreatDoor
open Go.RowKit
set_option maxRecDepth 100000
set_option linter.unusedVariables false
set_option maxHeartbeats 8000000
def Pl (w:World) (xs:List Nat) (e:Ending) (w':World):Prop:=∃v,e= .returned v/\Sq w' .u32 v xs/\Below w.heap.size w w'
def Lim (N k:Nat):Prop:=N<B32^k
theorem Lim.of_sq {xs:List Nat} {m:Nat} (ho:okb B32 xs) (hl:xs.length<=m):Lim (vl B32 xs) m:=
 Nat.lt_of_lt_of_le (ie ho) (Nat.pow_le_pow_right bi hl)
theorem Lim.add {N M a b:Nat} (h1:Lim N a) (h2:Lim M b) (c:Nat) (ha:a<c) (hb:b<c):Lim (N+M) c:=by
 have k1:N<B32^(c-1):=Nat.lt_of_lt_of_le h1 (Nat.pow_le_pow_right bi (by omega))
 have k2:M<B32^(c-1):=Nat.lt_of_lt_of_le h2 (Nat.pow_le_pow_right bi (by omega))
 have:=Eu k1 k2
 rwa[show c-1+1=c from by omega] at this
theorem Lim.mul {N M a b:Nat} (h1:Lim N a) (h2:Lim M b):Lim (N*M) (a+b):=by
 unfold Lim at*
 rw[Nat.pow_add]
 exact Nat.mul_lt_mul'' h1 h2
theorem Lim.le {N M a:Nat} (h:Lim M a) (hl:N<=M):Lim N a:=Nat.lt_of_le_of_lt hl h
theorem Lim.up {N a:Nat} (h:Lim N a) (b:Nat) (hl:a<=b):Lim N b:=Nat.lt_of_lt_of_le h (Nat.pow_le_pow_right bi hl)
theorem Lim.dl {N a:Nat} (h:Lim N a) (c:Nat) (hc:a<=c):dl B32 N<=c:=Nat.le_trans (fT aU h) hc
theorem Lim.dh {N a:Nat} (h:Lim N a) (c:Nat) (hc:2*a<=c):Go.Proofs.YtgdpkknapcgcbaaGreatDoor.dl 65536 N<=c:=by
 refine Nat.le_trans (fT (b:=65536) (by omega) (k:=2*a) ?_) hc
 rw[show(65536:Nat)^(2*a)=B32^a from by rw[Nat.pow_mul];rfl]
 exact h
theorem Lim.of64 {N:Nat} (h:N<18446744073709551616):Lim N 2:=Nat.lt_of_lt_of_le h (by decide)
theorem Nt.shape {w:World} {v:Value} {N:Nat} (h:Nt w v N):∃ad n cap,v= .slice ad n cap:=by
 obtain⟨xs,_,_,ad,cap,h1,_⟩:=h
 exact⟨ad,_,cap,h1⟩
theorem eO.sq {w w':World} (h:eO w w') {k:IntKind} {v:Value} {xs:List Nat} (s:Sq w k v xs):Sq w' k v xs:=by
 obtain⟨ad,cap,h1,h2,h3⟩:=s
 exact⟨ad,cap,h1,h _ _ _ h2,h3⟩
theorem eO.dg {w w':World} (h:eO w w') {k:IntKind} {b:Nat} {v:Value} {n:Nat} (s:Dg w k b v n):Dg w' k b v n:=h.sq s
section
section
def sg (neg:Bool) (N:Nat):Int:=if neg then -(N:Int) else(N:Int)
theorem dZ (neg:Bool) (N:Nat):(sg neg N).natAbs =N:=by unfold sg;split <;> omega
theorem fc (N:Nat):sg true N= -(N:Int):=rfl
theorem dG (N:Nat):sg false N=(N:Int):=rfl
theorem ga (neg:Bool):sg neg 0=0:=by unfold sg;split <;> omega
theorem FD (neg:Bool) {N:Nat} (h:0<N):decide (sg neg N<0)=neg:=by
 unfold sg;cases neg <;> simp <;> omega
theorem vL (z:Int):sg (decide (z<0)) z.natAbs=z:=by
 unfold sg
 by_cases h:z<0
 ·rw[if_pos (by simpa using h)];omega
 ·rw[if_neg (by simpa using h)];omega
def Wz (w:World) (v:Value) (z:Int):Prop:=∃neg a N,v= .agg #[.bool neg,a]/\Nt w a N/\z=sg neg N
def Wc (w:World) (v:Value) (z:Int):Prop:=∃a,v= .agg #[.bool (decide (z<0)),a]/\Dg w .u32 B32 a z.natAbs
theorem Wz.below {w w':World} {v:Value} {z:Int} (h:Wz w v z) (hb:Below w.heap.size w w'):Wz w' v z:=by
 obtain⟨neg,a,N,h1,h2,h3⟩:=h
 exact⟨neg,a,N,h1,h2.below hb,h3⟩
theorem Wc.below {w w':World} {v:Value} {z:Int} (h:Wc w v z) (hb:Below w.heap.size w w'):Wc w' v z:=by
 obtain⟨a,h1,h2⟩:=h
 exact⟨a,h1,h2.below hb⟩
theorem Wc.wz {w:World} {v:Value} {z:Int} (h:Wc w v z):Wz w v z:=by
 obtain⟨a,h1,h2⟩:=h
 exact⟨_,a,z.natAbs,h1,h2.nt,(vL z).symm⟩
theorem eO.wc {w w':World} (k:eO w w') {v:Value} {z:Int} (h:Wc w v z):Wc w' v z:=by
 obtain⟨a,h1,h2⟩:=h
 exact⟨a,h1,k.dg h2⟩
theorem Wz.shape {w:World} {v:Value} {z:Int} (h:Wz w v z):∃neg ad n cap N,v= .agg #[.bool neg,.slice ad n cap]/\Nt w (.slice ad n cap) N/\z=sg neg N:=by
 obtain⟨neg,a,N,rfl,h2,h3⟩:=h
 obtain⟨ad,n,cap,rfl⟩:=h2.shape
 exact⟨neg,ad,n,cap,N,rfl,h2,h3⟩
def fK (w:World) (z:Int) (e:Ending) (w':World):Prop:=∃v,e= .returned v/\Wc w' v z/\Below w.heap.size w w'
theorem Wc.zero (w:World):Wc w (.agg #[.bool false,.slice none 0 0]) 0:=
 ⟨_,rfl,Dg.zero _ _ _ _ (by unfold maxLen;omega) (fun _=>rfl)⟩
theorem Wc.sg {w:World} {neg:Bool} {v:Value} {N:Nat} (h:Dg w .u32 B32 v N) (hp:0<N):Wc w (.agg #[.bool neg,v]) (sg neg N):=
 ⟨v,by rw[FD neg hp],by rw[dZ];exact h⟩
theorem Bl (v:Value) (N:Nat) (w:World) (h:Nt w v N):CP 128 #[v] w (kD w N):=by
 have hl:dl B32 N<=1099511627776:=by
  obtain⟨xs,ho,hv,_,_,_,_,_,_,hl,_⟩:=h
  have:=cE aU ho
  rw[hv] at this
  omega
 refine(tv v N w h).mono ?_
 rintro e w' ⟨v',h1,h2,h3⟩
 exact⟨v',h1,h2.sq (by rw[aB];exact hl),h3⟩
theorem dK (neg:Bool) (v:Value) (N:Nat) (w:World) (h:Dg w .u32 B32 v N):
 CP 158 #[.bool neg,v] w (fK w (sg neg N)):=by
 have H:=Lib.hid h
 obtain⟨ad,cap,rfl,_,_,_,hl,_⟩:=h
 rw[aB] at hl ⊢
 by_cases h0:N=0
 ·subst h0
  rw[gb]
  have SZ:=Lib.hid (ga neg)
  clear H hl
  go_enter Tryz.func158,Tryz.ntmps158
  go_wp2
  refine bodyPost_ret (v:= .agg #[.bool false,.slice none 0 0]) (by simp[results,Tryz.results158,go_sem]) rfl ⟨_,rfl,?_,(Below.refl _ _).alloc (Nat.le_refl _) _⟩
  rw[SZ.out];exact Wc.zero _
 ·have hp:=eU aU (show 0<N by omega)
  have HP:=Lib.hid (show 0<N by omega)
  obtain⟨d,hd⟩:∃d,d=dl B32 N:=⟨_,rfl⟩
  rw[<-hd] at hl hp ⊢
  have HD:=Lib.hid hd
  clear hd h0
  go_enter Tryz.func158,Tryz.ntmps158
  go_wp2
  have hbl:=(Below.refl w.heap.size w).alloc (Nat.le_refl _) (.cells #[.bool neg,.slice ad d cap] 31)
  refine bodyPost_ret (v:= .agg #[.bool neg,.slice ad d cap]) (by simp[results,Tryz.results158,go_sem]) rfl ⟨_,rfl,?_,hbl⟩
  refine Wc.sg (Dg.below ?_ hbl) HP.out
  have:=H.out
  rw[aB,<-HD.out] at this
  exact this
theorem Wc.shape {w:World} {v:Value} {z:Int} (h:Wc w v z):∃ad n cap,v= .agg #[.bool (decide (z<0)),.slice ad n cap]/\Dg w .u32 B32 (.slice ad n cap) z.natAbs:=by
 obtain⟨a,rfl,h2⟩:=h
 have h3:=h2
 obtain⟨ad,cap,rfl,_⟩:=h3
 exact⟨ad,_,cap,rfl,h2⟩
theorem Wc.form {w:World} {v:Value} {z:Int} (h:Wc w v z):∃(b:Bool) (ad:Option Addr) (n cap:Nat),v= .agg #[.bool b,.slice ad n cap]:=by
 obtain⟨ad,n,cap,h1,_⟩:=h.shape
 exact⟨_,ad,n,cap,h1⟩
theorem tk (neg:Bool) (v:Value) (N:Nat) (w:World) (h:Nt w v N):
 CP 127 #[.bool neg,v] w (fK w (sg neg N)):=by
 have hsh:=h.shape
 obtain⟨ad,n,cap,rfl⟩:=hsh
 have hb0:=(Below.refl w.heap.size w).alloc (Nat.le_refl _) (.cells #[.bool false,.slice none 0 0] 31)
 go_enter Tryz.func127,Tryz.ntmps127
 go_wp2_with fail
 refine(Bl _ N _ (h.below hb0)).mono ?_
 rintro e w1 ⟨v1,rfl,d1,b1⟩
 go_wp2_with fail
 refine(dK neg v1 N _ d1).mono ?_
 rintro e w2 ⟨v2,rfl,h2,b2⟩
 obtain⟨ad2,n2,cap2,rfl,d2⟩:=h2.shape
 have b3:=b1.trans (b2.mono b1.size)
 obtain⟨hc,hf⟩:=iK b3
 obtain⟨bel,kp⟩:=lM hb0 (Nat.le_refl _) (by simp) (dD.box (l:=[.bool false,.slice none 0 0]) (by simp[cJ,eB])) b3 (.bool (decide (sg neg N<0))) (.slice ad2 n2 cap2) (cJ _)
 go_wp2
 refine bodyPost_ret (v:= .agg #[.bool (decide (sg neg N<0)),.slice ad2 n2 cap2]) (by simp[results,Tryz.results127,go_sem,hc]) rfl ⟨_,rfl,kp.wc h2,bel⟩
end
section
theorem kH (n:Int) (w:World) (h0: -9223372036854775808<=n) (h1:n<=9223372036854775807):
 CP 88 #[.int .i64 n] w (fK w n):=by
 have hb0:=(Below.refl w.heap.size w).alloc (Nat.le_refl _) (.cells #[.bool false,.slice none 0 0] 31)
 by_cases hn:n<0
 ·obtain⟨m,hm⟩:∃m:Nat,n= -(m:Int):=⟨(-n).toNat,by omega⟩
  have ew:IntKind.u64.wrap (-IntKind.u64.wrap n)=(m:Int):=by rw[IntKind.wrap_u64,IntKind.wrap_u64];omega
  have es:sg true m=n:=by rw[hm];rfl
  have hm2:m<18446744073709551616:=by omega
  have EW:=Lib.hid ew;have ES:=Lib.hid es
  clear ew es hm
  go_enter Tryz.func88,Tryz.ntmps88
  go_wp2_with fail
  rw[EW.out]
  refine(rF m _ hm2).mono ?_
  rintro e w1 ⟨v1,rfl,d1,bel⟩
  go_wp2_with fail
  have kc:=dK true v1 m _ d1
  rw[ES.out] at kc
  refine kc.mono ?_
  rintro e w2 ⟨v9,rfl,h9,bb⟩
  replace bel:=aF bel bb
  clear kc bb d1
  obtain⟨b9,ad9,n9,cap9,rfl⟩:=h9.form
  obtain⟨hc,hf⟩:=iK bel
  obtain⟨bel9,kp⟩:=lM hb0 (Nat.le_refl _) (by simp) (dD.box (l:=[.bool false,.slice none 0 0]) (by simp[cJ,eB])) bel (.bool b9) (.slice ad9 n9 cap9) (cJ _)
  go_wp2
  exact bodyPost_ret (by simp[results,Tryz.results88,go_sem,hc]) rfl ⟨_,rfl,kp.wc h9,bel9⟩
 ·obtain⟨m,rfl⟩:∃m:Nat,n=(m:Int):=⟨n.toNat,by omega⟩
  go_enter Tryz.func88,Tryz.ntmps88
  go_wp2_with fail
  refine(rF m _ (by omega)).mono ?_
  rintro e w1 ⟨v1,rfl,d1,bel⟩
  go_wp2_with fail
  have kc:=dK false v1 m _ d1
  rw[dG] at kc
  refine kc.mono ?_
  rintro e w2 ⟨v9,rfl,h9,bb⟩
  replace bel:=aF bel bb
  clear kc bb d1
  obtain⟨b9,ad9,n9,cap9,rfl⟩:=h9.form
  obtain⟨hc,hf⟩:=iK bel
  obtain⟨bel9,kp⟩:=lM hb0 (Nat.le_refl _) (by simp) (dD.box (l:=[.bool false,.slice none 0 0]) (by simp[cJ,eB])) bel (.bool b9) (.slice ad9 n9 cap9) (cJ _)
  go_wp2
  exact bodyPost_ret (by simp[results,Tryz.results88,go_sem,hc]) rfl ⟨_,rfl,kp.wc h9,bel9⟩
def sz (z:Int):Int:=if z=0 then 0 else if z<0 then -1 else 1
def jP (w:World) (n:Int) (e:Ending) (w':World):Prop:=e= .returned (.int .i64 n)/\Below w.heap.size w w'
theorem eG (v:Value) (z:Int) (w:World) (h:Wz w v z):
 CP 150 #[v] w (jP w (sz z)):=by
 obtain⟨neg,ad,n,cap,N,rfl,hN,rfl⟩:=h.shape
 have hb0:=(Below.refl w.heap.size w).alloc (Nat.le_refl _) (.cells #[.bool neg,.slice ad n cap] 31)
 have hN1:=hN.below hb0
 by_cases h0:N=0
 ·subst h0
  have es:sz (sg neg 0)=0:=by rw[ga];rfl
  rw[es]
  clear es
  go_enter Tryz.func150,Tryz.ntmps150
  go_wp2_with fail
  have kc:=jB _ 0 _ hN1
  rw[gb] at kc
  refine kc.mono ?_
  rintro e w2 ⟨rfl,hw⟩
  have hw:=hw.symm;subst hw
  clear kc
  go_wp2
  go_ret
  exact⟨rfl,hb0⟩
 ·obtain⟨B,hB⟩:∃B,B=dl 2 N:=⟨_,rfl⟩
  have hbp:(((B:Nat):Int) == 0)=false:=by have:=eU (b:=2) (by omega) (show 0<N by omega);simp;omega
  have HB:=Lib.hid hB
  clear hB
  cases neg with
  |false=>
   have es:sz (sg false N)=1:=by unfold sz;rw[dG,if_neg (by omega),if_neg (by omega)]
   rw[es]
   clear es h0
   go_enter Tryz.func150,Tryz.ntmps150
   go_wp2_with fail
   have kc:=jB _ N _ hN1
   rw[<-HB.out] at kc
   refine kc.mono ?_
   rintro e w2 ⟨rfl,hw⟩
   have hw:=hw.symm;subst hw
   clear kc
   go_wp2
   go_ret
   exact⟨rfl,hb0⟩
  |true=>
   have es:sz (sg true N)= -1:=by unfold sz;rw[fc,if_neg (by omega),if_pos (by omega)]
   rw[es]
   clear es h0
   go_enter Tryz.func150,Tryz.ntmps150
   go_wp2_with fail
   have kc:=jB _ N _ hN1
   rw[<-HB.out] at kc
   refine kc.mono ?_
   rintro e w2 ⟨rfl,hw⟩
   have hw:=hw.symm;subst hw
   clear kc
   go_wp2
   go_ret
   exact⟨rfl,hb0⟩
theorem Gc (v:Value) (z:Int) (w:World) (h:Wz w v z):
 CP 157 #[v] w (fK w (-z)):=by
 obtain⟨neg,ad,n,cap,N,rfl,hN,rfl⟩:=h.shape
 have hb0:=((Below.refl w.heap.size w).alloc (Nat.le_refl _) (.cells #[.bool neg,.slice ad n cap] 31)).alloc (by simp) (.cells #[.bool false,.slice none 0 0] 31)
 have hN1:=hN.below hb0
 have EO:=Lib.hid (show sg (!neg) N= - sg neg N from by cases neg <;> simp[sg])
 go_enter Tryz.func157,Tryz.ntmps157
 go_wp2_with fail
 have kc:=tk (!neg) _ N _ hN1
 rw[EO.out] at kc
 refine kc.mono ?_
 rintro e w2 ⟨v9,rfl,h9,bel⟩
 clear kc
 have ni:dD ((w.alloc (.cells #[.bool neg,.slice ad n cap] 31)).alloc (.cells #[.bool false,.slice none 0 0] 31)) (w.heap.size+1):=by
  have:=dD.box (w:=w.alloc (.cells #[.bool neg,.slice ad n cap] 31)) (l:=[.bool false,.slice none 0 0]) (T:=31) (by simp[cJ,eB])
  simpa using this
 obtain⟨b9,ad9,n9,cap9,rfl⟩:=h9.form
 obtain⟨hc,hf⟩:=iK bel
 obtain⟨bel9,kp⟩:=lM hb0 (by omega) (by simp) ni bel (.bool b9) (.slice ad9 n9 cap9) (cJ _)
 go_wp2
 exact bodyPost_ret (by simp[results,Tryz.results157,go_sem,hc]) rfl ⟨_,rfl,kp.wc h9,bel9⟩
end
section
end
section
end
end
section
section
theorem AC (b c:Bool) (N M:Nat):sg (!(b == c)) (N*M)=sg b N*sg c M:=by
 cases b <;> cases c <;> simp[sg,Int.mul_neg,Int.neg_mul]
end
section
def fr (a b:Int):Int:=if b=0 then 0 else a.fmod b
theorem uO {a b q r:Int} (h:a=b*q+r) (h0:0<=r) (h1:r<b):a.fdiv b=q/\a.fmod b=r:=by
 have hb:0<b:=by omega
 have:=(Int.ediv_emod_unique (a:=a) (q:=q) (r:=r) hb).2 ⟨by omega,h0,h1⟩
 rw[Int.fdiv_eq_ediv_of_nonneg _ (by omega),Int.fmod_eq_emod_of_nonneg _ (by omega)]
 exact this
theorem xF {a b q r:Int} (h:a=b*q+r) (h0:r<=0) (h1:b<r):a.fdiv b=q/\a.fmod b=r:=by
 have hq:(-a).fdiv (-b)=q/\(-a).fmod (-b)= -r:=uO (by rw[h,Int.neg_mul];omega) (by omega) (by omega)
 rw[Int.neg_fdiv_neg] at hq
 refine⟨hq.1,?_⟩
 have:=Int.fmod_def a b
 rw[hq.1] at this
 omega
theorem vm (N M:Nat):(N:Int)=(M:Int)*((N/M:Nat):Int)+((N%M:Nat):Int):=by
 have:=Nat.div_add_mod N M
 exact_mod_cast this.symm
theorem nx (z:Int):z.fdiv 0=0/\fr z 0=0:=⟨Int.fdiv_zero z,if_pos rfl⟩
theorem JB (n:Bool) (N M:Nat):(sg n N).fdiv (sg n M)=sg false (N/M)/\fr (sg n N) (sg n M)=sg n (if M=0 then 0 else N%M):=by
 by_cases hm:M=0
 ·subst hm
  rw[ga,if_pos rfl,ga,Nat.div_zero,ga];exact nx _
 ·have h1:=vm N M
  have h2:=Nat.mod_lt N (show 0<M by omega)
  rw[if_neg hm]
  generalize N/M=q at*
  generalize N%M=r at*
  unfold fr
  cases n with
  |false=>rw[dG,dG,dG,dG,if_neg (by omega)];exact uO h1 (by omega) (by omega)
  |true=>rw[fc,fc,fc,dG,if_neg (by omega)];exact xF (by rw[h1,Int.neg_mul];omega) (by omega) (by omega)
theorem G6 (n:Bool) (N M:Nat) (h:(if M=0 then 0 else N%M)=0):(sg n N).fdiv (sg (!n) M)=sg true (N/M)/\fr (sg n N) (sg (!n) M)=sg (!n) 0:=by
 by_cases hm:M=0
 ·subst hm
  rw[ga,Nat.div_zero,ga];exact nx _
 ·have h1:=vm N M
  rw[if_neg hm] at h
  rw[h] at h1
  rw[ga]
  generalize N/M=q at*
  unfold fr
  cases n with
  |false=>rw[show(!false)=true from rfl,dG,fc,fc,if_neg (by omega)];exact xF (by rw[h1,Int.neg_mul,Int.mul_neg];omega) (by omega) (by omega)
  |true=>rw[show(!true)=false from rfl,dG,fc,fc,if_neg (by omega)];exact uO (by rw[h1,Int.mul_neg];omega) (by omega) (by omega)
theorem IV (n:Bool) (N M:Nat) (h:¬(if M=0 then 0 else N%M)=0):(sg n N).fdiv (sg (!n) M)=sg true (N/M+1)/\fr (sg n N) (sg (!n) M)=sg (!n) (M-(if M=0 then 0 else N%M)):=by
 by_cases hm:M=0
 ·subst hm
  exact absurd (if_pos rfl) h
 ·have h1:=vm N M
  have h2:=Nat.mod_lt N (show 0<M by omega)
  rw[if_neg hm] at h ⊢
  generalize N/M=q at*
  generalize N%M=r at*
  unfold fr
  cases n with
  |false=>rw[show(!false)=true from rfl,dG,fc,fc,fc,if_neg (by omega)];exact xF (by rw[h1,Int.neg_mul,Int.mul_neg];push_cast;rw[Int.mul_add];omega) (by omega) (by omega)
  |true=>rw[show(!true)=false from rfl,dG,fc,fc,dG,if_neg (by omega)];exact uO (by rw[h1,Int.mul_neg];push_cast;rw[Int.mul_add];omega) (by omega) (by omega)
end
section
def P2 (w:World) (z1 z2:Int) (e:Ending) (w':World):Prop:=∃v1 v2,e= .returned (.tuple #[v1,v2])/\Wc w' v1 (z1.fdiv z2)/\Wc w' v2 (fr z1 z2)/\Below w.heap.size w w'
end
section
def ci (x y:Int):Int:=if x<y then -1 else if y<x then 1 else 0
theorem Rk {x y:Int} (h:x<y):ci x y= -1:=by unfold ci;rw[if_pos h]
theorem QO {x y:Int} (h:y<x):ci x y=1:=by unfold ci;rw[if_neg (by omega),if_pos h]
theorem Qn {x y:Int} (h:x=y):ci x y=0:=by unfold ci;rw[if_neg (by omega),if_neg (by omega)]
theorem ud (x:Int) (w:World):CP 191 #[.int .i64 x] w fun e w'=>e= .returned (.bool false)/\w'=w:=by
 go_enter Tryz.func191,Tryz.ntmps191
 go_wp2
 go_ret
 exact⟨rfl,rfl⟩
theorem Hp (x y:Int) (w:World):CP 133 #[.int .i64 x,.int .i64 y] w fun e w'=>e= .returned (.int .i64 (ci x y))/\w'=w:=by
 rcases Int.lt_trichotomy x y with h|h|h
 ·rw[Rk h]
  go_enter Tryz.func133,Tryz.ntmps133
  go_wp2_with (go_at_call 191;refine(ud _ _).mono ?_;rintro e w2 ⟨rfl,hw⟩;have hw:=hw.symm;subst hw)
  go_ret
  exact⟨rfl,rfl⟩
 ·rw[Qn h]
  subst h
  go_enter Tryz.func133,Tryz.ntmps133
  go_wp2_with (go_at_call 191;refine(ud _ _).mono ?_;rintro e w2 ⟨rfl,hw⟩;have hw:=hw.symm;subst hw)
  go_ret
  exact⟨rfl,rfl⟩
 ·rw[QO h]
  have h':¬x<y:=by omega
  go_enter Tryz.func133,Tryz.ntmps133
  go_wp2_with (go_at_call 191;refine(ud _ _).mono ?_;rintro e w2 ⟨rfl,hw⟩;have hw:=hw.symm;subst hw)
  go_ret
  exact⟨rfl,rfl⟩
theorem H8 (z:Int):sz z= -1\/sz z=0\/sz z=1:=by unfold sz;split <;> (try split) <;> simp
theorem JT {x y:Int} (h:¬sz x=sz y):ci (sz x) (sz y)=ci x y:=by
 unfold sz at*
 unfold ci
 split at h <;> split at h <;> (try split at h) <;> (try split at h) <;> simp_all <;> omega
theorem Pt (b c:Bool) {N M:Nat} (h:sz (sg b N)=sz (sg c M)):sz (sg b N)*c3 N M=ci (sg b N) (sg c M):=by
 unfold sz ci c3 sg at*
 cases b <;> cases c <;> simp at* <;> split at h <;> (try split at h) <;> (try split at h) <;> (try split at h) <;> (try split) <;> (try split) <;> (try split) <;> (try split) <;> omega
theorem qK (v1 v2:Value) (z1 z2:Int) (w:World) (h1:Wz w v1 z1) (h2:Wz w v2 z2):
 CP 79 #[v1,v2] w (jP w (ci z1 z2)):=by
 obtain⟨neg1,ad1,n1,cap1,N1,rfl,hN1,rfl⟩:=h1.shape
 obtain⟨neg2,ad2,n2,cap2,N2,rfl,hN2,rfl⟩:=h2.shape
 have hb0:=((Below.refl w.heap.size w).alloc (Nat.le_refl _) (.cells #[.bool neg1,.slice ad1 n1 cap1] 31)).alloc (by simp) (.cells #[.bool neg2,.slice ad2 n2 cap2] 31)
 have hw1':=h1.below hb0;have hw2':=h2.below hb0
 have hN1':=hN1.below hb0;have hN2':=hN2.below hb0
 by_cases hs:sz (sg neg1 N1)=sz (sg neg2 N2)
 ·have hfin:=Lib.hid (Pt neg1 neg2 hs)
  have hcr:=HK N1 N2
  rw[hs] at hfin
  have HS:=Lib.hid hs
  obtain⟨c,hcc⟩:∃c,c=c3 N1 N2:=⟨_,rfl⟩
  rw[<-hcc] at hfin hcr
  have HC:=Lib.hid hcc
  clear hcc hs
  have h3:=H8 (sg neg2 N2)
  obtain⟨s,hss⟩:∃s,s=sz (sg neg2 N2):=⟨_,rfl⟩
  rw[<-hss] at h3 hfin
  have HSS:=Lib.hid hss
  clear hss
  obtain⟨hcr1,hcr2⟩:=hcr
  rw[<-hfin.out]
  clear hfin
  rcases h3 with rfl|rfl|rfl
  all_goals
   go_enter Tryz.func79,Tryz.ntmps79
   go_wp2_with fail
   have kc:=eG _ (sg neg1 N1) _ hw1'
   rw[HS.out,<-HSS.out] at kc
   refine kc.mono ?_
   rintro e w1 ⟨rfl,bb⟩
   clear kc
   replace hw1':=hw1'.below bb
   replace hw2':=hw2'.below bb
   replace hN1':=hN1'.below bb
   replace hN2':=hN2'.below bb
   have bel:=bb
   clear bb
   obtain⟨hc,hf⟩:=iK bel
   go_wp2_with fail
   have kc:=eG _ (sg neg2 N2) _ hw2'
   rw[<-HSS.out] at kc
   refine kc.mono ?_
   rintro e w2 ⟨rfl,bb⟩
   clear kc
   replace hw1':=hw1'.below bb
   replace hw2':=hw2'.below bb
   replace hN1':=hN1'.below bb
   replace hN2':=hN2'.below bb
   replace bel:=aF bel bb
   clear bb
   clear hc hf
   obtain⟨hc,hf⟩:=iK bel
   go_wp2_with fail
   have kc:=vU _ _ N1 N2 _ hN1' hN2'
   rw[<-HC.out] at kc
   refine kc.mono ?_
   intro e w3 hh
   obtain⟨rfl,bb,hsz⟩:=jw hh
   clear hh hsz kc
   replace hw1':=hw1'.below bb
   replace hw2':=hw2'.below bb
   replace hN1':=hN1'.below bb
   replace hN2':=hN2'.below bb
   replace bel:=aF bel bb
   clear bb
   clear hc hf
   obtain⟨hc,hf⟩:=iK bel
   go_wp2
   go_ret
   exact⟨by first|rfl|exact dQ (by omega)|(refine dQ ?_;unfold wrap64;omega),hb0.trans (bel.mono hb0.size)⟩
 ·have hfin:=Lib.hid (JT hs)
  rw[<-hfin.out]
  clear hfin
  obtain⟨s1,hs1⟩:∃s,s=sz (sg neg1 N1):=⟨_,rfl⟩
  obtain⟨s2,hs2⟩:∃s,s=sz (sg neg2 N2):=⟨_,rfl⟩
  rw[<-hs1,<-hs2] at hs ⊢
  have HS1:=Lib.hid hs1;have HS2:=Lib.hid hs2
  clear hs1 hs2
  have hb1:(s1 == s2)=false:=by simpa using hs
  clear hs
  go_enter Tryz.func79,Tryz.ntmps79
  go_wp2_with fail
  have kc:=eG _ (sg neg1 N1) _ hw1'
  rw[<-HS1.out] at kc
  refine kc.mono ?_
  rintro e w1 ⟨rfl,bb⟩
  clear kc
  replace hw1':=hw1'.below bb
  replace hw2':=hw2'.below bb
  replace hN1':=hN1'.below bb
  replace hN2':=hN2'.below bb
  have bel:=bb
  clear bb
  obtain⟨hc,hf⟩:=iK bel
  go_wp2_with fail
  have kc:=eG _ (sg neg2 N2) _ hw2'
  rw[<-HS2.out] at kc
  refine kc.mono ?_
  rintro e w2 ⟨rfl,bb⟩
  clear kc
  replace hw1':=hw1'.below bb
  replace hw2':=hw2'.below bb
  replace hN1':=hN1'.below bb
  replace hN2':=hN2'.below bb
  replace bel:=aF bel bb
  clear bb
  clear hc hf
  obtain⟨hc,hf⟩:=iK bel
  go_wp2_with fail
  have kc:=eG _ (sg neg2 N2) _ hw2'
  rw[<-HS2.out] at kc
  refine kc.mono ?_
  rintro e w3 ⟨rfl,bb⟩
  clear kc
  replace hw1':=hw1'.below bb
  replace hw2':=hw2'.below bb
  replace hN1':=hN1'.below bb
  replace hN2':=hN2'.below bb
  replace bel:=aF bel bb
  clear bb
  clear hc hf
  obtain⟨hc,hf⟩:=iK bel
  go_wp2_with fail
  refine(Hp s1 s2 _).mono ?_
  rintro e wx ⟨rfl,hw⟩
  have hw:=hw.symm;subst hw
  go_wp2
  go_ret
  exact⟨by first|rfl|exact dQ (by omega)|(refine dQ ?_;unfold wrap64;omega),hb0.trans (bel.mono hb0.size)⟩
end
section
def jM (w:World) (u:Value) (b:Bool) (e:Ending) (w':World):Prop:=e= .returned (.tuple #[u,.bool b])/\Below w.heap.size w w'
theorem sA (v:Value) (N:Nat) (w:World) (h:Nt w v N) (hl:N<18446744073709551616):CP 222 #[v] w fun e w'=>e= .returned (.tuple #[.int .u64 N,.bool true])/\w'=w:=by
 have hd:dl 2 N<=64:=fT (by omega) (Nat.lt_of_lt_of_le hl (by decide))
 have:=xW v N w h
 unfold tr at this
 rw[if_pos hd,show decide (dl 2 N<=64)=true from by simpa using hd] at this
 exact this
theorem BN (v:Value) (N:Nat) (w:World) (h:Nt w v N) (hl:18446744073709551616<=N):CP 222 #[v] w fun e w'=>e= .returned (.tuple #[.int .u64 (0:Nat),.bool false])/\w'=w:=by
 have hd:¬dl 2 N<=64:=by
  intro hh
  have h1:=jx (b:=2) (by omega) N
  have h2:(2:Nat)^dl 2 N<=2^64:=Nat.pow_le_pow_right (by omega) hh
  have h3:(2:Nat)^64=18446744073709551616:=by decide
  omega
 have:=xW v N w h
 unfold tr at this
 rw[if_neg hd,show decide (dl 2 N<=64)=false from by simpa using hd] at this
 exact this
theorem AP (ad:Option Addr) (n cap N:Nat) (w:World) (hN:Nt w (.slice ad n cap) N) (hc:N<=9223372036854775807):
 CP 174 #[.agg #[.bool false,.slice ad n cap]] w (jM w (.int .i64 (N:Nat)) true):=by
 have hb0:=(Below.refl w.heap.size w).alloc (Nat.le_refl _) (.cells #[.bool false,.slice ad n cap] 31)
 have hN':=hN.below hb0
 have KU:=Lib.hid (sA _ N _ hN' (by omega))
 go_enter Tryz.func174,Tryz.ntmps174
 go_wp2_with fail
 refine KU.out.mono ?_
 rintro e wx ⟨rfl,hw⟩
 have hw:=hw.symm;subst hw
 clear KU
 go_wp2
 go_ret2
 exact⟨rfl,hb0⟩
theorem A3 (ad:Option Addr) (n cap N:Nat) (w:World) (hN:Nt w (.slice ad n cap) N) (hc:9223372036854775807<N/\N<18446744073709551616):
 CP 174 #[.agg #[.bool false,.slice ad n cap]] w (jM w (.int .i64 0) false):=by
 have hb0:=(Below.refl w.heap.size w).alloc (Nat.le_refl _) (.cells #[.bool false,.slice ad n cap] 31)
 have hN':=hN.below hb0
 have KU:=Lib.hid (sA _ N _ hN' (by omega))
 go_enter Tryz.func174,Tryz.ntmps174
 go_wp2_with fail
 refine KU.out.mono ?_
 rintro e wx ⟨rfl,hw⟩
 have hw:=hw.symm;subst hw
 clear KU
 go_wp2
 go_ret2
 exact⟨rfl,hb0⟩
theorem D8 (ad:Option Addr) (n cap N:Nat) (w:World) (hN:Nt w (.slice ad n cap) N) (hc:18446744073709551616<=N):
 CP 174 #[.agg #[.bool false,.slice ad n cap]] w (jM w (.int .i64 0) false):=by
 have hb0:=(Below.refl w.heap.size w).alloc (Nat.le_refl _) (.cells #[.bool false,.slice ad n cap] 31)
 have hN':=hN.below hb0
 have KU:=Lib.hid (BN _ N _ hN' (by omega))
 clear hc
 go_enter Tryz.func174,Tryz.ntmps174
 go_wp2_with fail
 refine KU.out.mono ?_
 rintro e wx ⟨rfl,hw⟩
 have hw:=hw.symm;subst hw
 clear KU
 go_wp2
 go_ret2
 exact⟨rfl,hb0⟩
theorem AU (ad:Option Addr) (n cap N:Nat) (w:World) (hN:Nt w (.slice ad n cap) N) (hc:N<=9223372036854775808):
 CP 174 #[.agg #[.bool true,.slice ad n cap]] w (jM w (.int .i64 (-(N:Int))) true):=by
 have hb0:=(Below.refl w.heap.size w).alloc (Nat.le_refl _) (.cells #[.bool true,.slice ad n cap] 31)
 have hN':=hN.below hb0
 have KU:=Lib.hid (sA _ N _ hN' (by omega))
 have EW:=Lib.hid (show wrap64 (IntKind.u64.wrap (-(N:Int)))= -(N:Int) by unfold wrap64;rw[IntKind.wrap_u64];omega)
 go_enter Tryz.func174,Tryz.ntmps174
 go_wp2_with fail
 refine KU.out.mono ?_
 rintro e wx ⟨rfl,hw⟩
 have hw:=hw.symm;subst hw
 clear KU
 go_wp2
 go_ret2
 exact⟨by show Ending.returned (.tuple #[.int .i64 (wrap64 (IntKind.u64.wrap (-(N:Int)))),.bool true])=_;rw[EW.out],hb0⟩
theorem A6 (ad:Option Addr) (n cap N:Nat) (w:World) (hN:Nt w (.slice ad n cap) N) (hc:9223372036854775808<N/\N<18446744073709551616):
 CP 174 #[.agg #[.bool true,.slice ad n cap]] w (jM w (.int .i64 0) false):=by
 have hb0:=(Below.refl w.heap.size w).alloc (Nat.le_refl _) (.cells #[.bool true,.slice ad n cap] 31)
 have hN':=hN.below hb0
 have KU:=Lib.hid (sA _ N _ hN' (by omega))
 go_enter Tryz.func174,Tryz.ntmps174
 go_wp2_with fail
 refine KU.out.mono ?_
 rintro e wx ⟨rfl,hw⟩
 have hw:=hw.symm;subst hw
 clear KU
 go_wp2
 go_ret2
 exact⟨rfl,hb0⟩
theorem Dw (ad:Option Addr) (n cap N:Nat) (w:World) (hN:Nt w (.slice ad n cap) N) (hc:18446744073709551616<=N):
 CP 174 #[.agg #[.bool true,.slice ad n cap]] w (jM w (.int .i64 0) false):=by
 have hb0:=(Below.refl w.heap.size w).alloc (Nat.le_refl _) (.cells #[.bool true,.slice ad n cap] 31)
 have hN':=hN.below hb0
 have KU:=Lib.hid (BN _ N _ hN' (by omega))
 clear hc
 go_enter Tryz.func174,Tryz.ntmps174
 go_wp2_with fail
 refine KU.out.mono ?_
 rintro e wx ⟨rfl,hw⟩
 have hw:=hw.symm;subst hw
 clear KU
 go_wp2
 go_ret2
 exact⟨rfl,hb0⟩
theorem AN (v:Value) (z:Int) (w:World) (h:Wz w v z) (h0: -9223372036854775808<=z) (h1:z<=9223372036854775807):CP 174 #[v] w (jM w (.int .i64 z) true):=by
 obtain⟨neg,ad,n,cap,N,rfl,hN,rfl⟩:=h.shape
 cases neg with
 |false=>rw[dG] at*;exact AP ad n cap N w hN (by omega)
 |true=>rw[fc] at*;exact AU ad n cap N w hN (by omega)
theorem Dy (v:Value) (z:Int) (w:World) (h:Wz w v z) (hz:z< -9223372036854775808\/9223372036854775807<z):CP 174 #[v] w (jM w (.int .i64 0) false):=by
 obtain⟨neg,ad,n,cap,N,rfl,hN,rfl⟩:=h.shape
 cases neg with
 |false=>
  rw[dG] at*
  by_cases hh:N<18446744073709551616
  ·exact A3 ad n cap N w hN (by omega)
  ·exact D8 ad n cap N w hN (by omega)
 |true=>
  rw[fc] at*
  by_cases hh:N<18446744073709551616
  ·exact A6 ad n cap N w hN (by omega)
  ·exact Dw ad n cap N w hN (by omega)
end
end
end Go.Proofs.YtgdpkknapcgcbaaGreatDoor
