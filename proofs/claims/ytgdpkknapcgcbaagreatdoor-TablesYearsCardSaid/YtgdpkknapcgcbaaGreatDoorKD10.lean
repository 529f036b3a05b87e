import Derived.Test.YtgdpkknapcgcbaaGreatDoorKD9
import Derived.Deep.RegionHeld3
import Derived.Deep.LoopGhost
namespace Go.Proofs.YtgdpkknapcgcbaaGreatDoor
open Go.RowKit
set_option maxRecDepth 100000
set_option linter.unusedVariables false
set_option maxHeartbeats 8000000
section
section
theorem xK (b c:Bool) (N M:Nat):sg (!(b == c)) (N*M)=sg b N*sg c M:=by
 cases b <;> cases c <;> simp[sg,Int.mul_neg,Int.neg_mul]
end
section
def fr (a b:Int):Int:=if b=0 then 0 else a.fmod b
theorem ri {a b q r:Int} (h:a=b*q+r) (h0:0<=r) (h1:r<b):a.fdiv b=q/\a.fmod b=r:=by
 have hb:0<b:=by omega
 have:=(Int.ediv_emod_unique (a:=a) (q:=q) (r:=r) hb).2 ⟨by omega,h0,h1⟩
 rw[Int.fdiv_eq_ediv_of_nonneg _ (by omega),Int.fmod_eq_emod_of_nonneg _ (by omega)]
 exact this
theorem xw {a b q r:Int} (h:a=b*q+r) (h0:r<=0) (h1:b<r):a.fdiv b=q/\a.fmod b=r:=by
 have hq:(-a).fdiv (-b)=q/\(-a).fmod (-b)= -r:=ri (by rw[h,Int.neg_mul];omega) (by omega) (by omega)
 rw[Int.neg_fdiv_neg] at hq
 refine⟨hq.1,?_⟩
 have:=Int.fmod_def a b
 rw[hq.1] at this
 omega
theorem qi (N M:Nat):(N:Int)=(M:Int)*((N/M:Nat):Int)+((N%M:Nat):Int):=by
 have:=Nat.div_add_mod N M
 exact_mod_cast this.symm
theorem qG (z:Int):z.fdiv 0=0/\fr z 0=0:=⟨Int.fdiv_zero z,if_pos rfl⟩
theorem Bg (n:Bool) (N M:Nat):(sg n N).fdiv (sg n M)=sg false (N/M)/\fr (sg n N) (sg n M)=sg n (if M=0 then 0 else N%M):=by
 by_cases hm:M=0
 ·subst hm
  rw[et,if_pos rfl,et,Nat.div_zero,et];exact qG _
 ·have h1:=qi N M
  have h2:=Nat.mod_lt N (show 0<M by omega)
  rw[if_neg hm]
  generalize N/M=q at*
  generalize N%M=r at*
  unfold fr
  cases n with
  |false=>rw[cK,cK,cK,cK,if_neg (by omega)];exact ri h1 (by omega) (by omega)
  |true=>rw[di,di,di,cK,if_neg (by omega)];exact xw (by rw[h1,Int.neg_mul];omega) (by omega) (by omega)
theorem A5 (n:Bool) (N M:Nat) (h:(if M=0 then 0 else N%M)=0):(sg n N).fdiv (sg (!n) M)=sg true (N/M)/\fr (sg n N) (sg (!n) M)=sg (!n) 0:=by
 by_cases hm:M=0
 ·subst hm
  rw[et,Nat.div_zero,et];exact qG _
 ·have h1:=qi N M
  rw[if_neg hm] at h
  rw[h] at h1
  rw[et]
  generalize N/M=q at*
  unfold fr
  cases n with
  |false=>rw[show(!false)=true from rfl,cK,di,di,if_neg (by omega)];exact xw (by rw[h1,Int.neg_mul,Int.mul_neg];omega) (by omega) (by omega)
  |true=>rw[show(!true)=false from rfl,cK,di,di,if_neg (by omega)];exact ri (by rw[h1,Int.mul_neg];omega) (by omega) (by omega)
theorem Az (n:Bool) (N M:Nat) (h:¬(if M=0 then 0 else N%M)=0):(sg n N).fdiv (sg (!n) M)=sg true (N/M+1)/\fr (sg n N) (sg (!n) M)=sg (!n) (M-(if M=0 then 0 else N%M)):=by
 by_cases hm:M=0
 ·subst hm
  exact absurd (if_pos rfl) h
 ·have h1:=qi N M
  have h2:=Nat.mod_lt N (show 0<M by omega)
  rw[if_neg hm] at h ⊢
  generalize N/M=q at*
  generalize N%M=r at*
  unfold fr
  cases n with
  |false=>rw[show(!false)=true from rfl,cK,di,di,di,if_neg (by omega)];exact xw (by rw[h1,Int.neg_mul,Int.mul_neg];push_cast;rw[Int.mul_add];omega) (by omega) (by omega)
  |true=>rw[show(!true)=false from rfl,cK,di,di,cK,if_neg (by omega)];exact ri (by rw[h1,Int.mul_neg];push_cast;rw[Int.mul_add];omega) (by omega) (by omega)
end
section
def FI (w:World) (z1 z2:Int) (e:Ending) (w':World):Prop:=∃v1 v2,e= .returned (.tuple #[v1,v2])/\Wc w' v1 (z1.fdiv z2)/\Wc w' v2 (fr z1 z2)/\Below w.heap.size w w'
end
section
def ci (x y:Int):Int:=if x<y then -1 else if y<x then 1 else 0
theorem Hq {x y:Int} (h:x<y):ci x y= -1:=by unfold ci;rw[if_pos h]
theorem Hn {x y:Int} (h:y<x):ci x y=1:=by unfold ci;rw[if_neg (by omega),if_pos h]
theorem Hp {x y:Int} (h:x=y):ci x y=0:=by unfold ci;rw[if_neg (by omega),if_neg (by omega)]
theorem oe (x:Int) (w:World):CP 191 #[.int .i64 x] w fun e w'=>e= .returned (.bool false)/\w'=w:=by
 go_enter Tryz.func191,Tryz.ntmps191
 go_wp2
 go_ret
 exact⟨rfl,rfl⟩
theorem BV (x y:Int) (w:World):CP 133 #[.int .i64 x,.int .i64 y] w fun e w'=>e= .returned (.int .i64 (ci x y))/\w'=w:=by
 rcases Int.lt_trichotomy x y with h|h|h
 ·rw[Hq h]
  go_enter Tryz.func133,Tryz.ntmps133
  go_wp2_with (go_at_call 191;refine(oe _ _).mono ?_;rintro e w2 ⟨rfl,hw⟩;have hw:=hw.symm;subst hw)
  go_ret
  exact⟨rfl,rfl⟩
 ·rw[Hp h]
  subst h
  go_enter Tryz.func133,Tryz.ntmps133
  go_wp2_with (go_at_call 191;refine(oe _ _).mono ?_;rintro e w2 ⟨rfl,hw⟩;have hw:=hw.symm;subst hw)
  go_ret
  exact⟨rfl,rfl⟩
 ·rw[Hn h]
  have h':¬x<y:=by omega
  go_enter Tryz.func133,Tryz.ntmps133
  go_wp2_with (go_at_call 191;refine(oe _ _).mono ?_;rintro e w2 ⟨rfl,hw⟩;have hw:=hw.symm;subst hw)
  go_ret
  exact⟨rfl,rfl⟩
theorem Ah (z:Int):sz z= -1\/sz z=0\/sz z=1:=by unfold sz;split <;> (try split) <;> simp
theorem Ac {x y:Int} (h:¬sz x=sz y):ci (sz x) (sz y)=ci x y:=by
 unfold sz at*
 unfold ci
 split at h <;> split at h <;> (try split at h) <;> (try split at h) <;> simp_all <;> omega
theorem FH (b c:Bool) {N M:Nat} (h:sz (sg b N)=sz (sg c M)):sz (sg b N)*c3 N M=ci (sg b N) (sg c M):=by
 unfold sz ci c3 sg at*
 cases b <;> cases c <;> simp at* <;> split at h <;> (try split at h) <;> (try split at h) <;> (try split at h) <;> (try split) <;> (try split) <;> (try split) <;> (try split) <;> omega
theorem xC (v1 v2:Value) (z1 z2:Int) (w:World) (h1:Wz w v1 z1) (h2:Wz w v2 z2):
 CP 79 #[v1,v2] w (mp w (ci z1 z2)):=by
 obtain⟨neg1,ad1,n1,cap1,N1,rfl,hN1,rfl⟩:=h1.shape
 obtain⟨neg2,ad2,n2,cap2,N2,rfl,hN2,rfl⟩:=h2.shape
 have hb0:=((Below.refl w.heap.size w).alloc (Nat.le_refl _) (.cells #[.bool neg1,.slice ad1 n1 cap1] 31)).alloc (by simp) (.cells #[.bool neg2,.slice ad2 n2 cap2] 31)
 have hw1':=h1.below hb0;have hw2':=h2.below hb0
 have hN1':=hN1.below hb0;have hN2':=hN2.below hb0
 by_cases hs:sz (sg neg1 N1)=sz (sg neg2 N2)
 ·have hfin:=Lib.hid (FH neg1 neg2 hs)
  have hcr:=B4 N1 N2
  rw[hs] at hfin
  have HS:=Lib.hid hs
  obtain⟨c,hcc⟩:∃c,c=c3 N1 N2:=⟨_,rfl⟩
  rw[<-hcc] at hfin hcr
  have HC:=Lib.hid hcc
  clear hcc hs
  have h3:=Ah (sg neg2 N2)
  obtain⟨s,hss⟩:∃s,s=sz (sg neg2 N2):=⟨_,rfl⟩
  rw[<-hss] at h3 hfin
  have HSS:=Lib.hid hss
  clear hss
  obtain⟨hcr1,hcr2⟩:=hcr
  rw[<-hfin.out]
  clear hfin
  rcases h3 with rfl|rfl|rfl
  all_goals
   go_enter Tryz.func79,Tryz.ntmps79
   go_wp2_with fail
   have kc:=dt _ (sg neg1 N1) _ hw1'
   rw[HS.out,<-HSS.out] at kc
   refine kc.mono ?_
   rintro e w1 ⟨rfl,bb⟩
   clear kc
   replace hw1':=hw1'.below bb
   replace hw2':=hw2'.below bb
   replace hN1':=hN1'.below bb
   replace hN2':=hN2'.below bb
   have bel:=bb
   clear bb
   obtain⟨hc,hf⟩:=hZ bel
   go_wp2_with fail
   have kc:=dt _ (sg neg2 N2) _ hw2'
   rw[<-HSS.out] at kc
   refine kc.mono ?_
   rintro e w2 ⟨rfl,bb⟩
   clear kc
   replace hw1':=hw1'.below bb
   replace hw2':=hw2'.below bb
   replace hN1':=hN1'.below bb
   replace hN2':=hN2'.below bb
   replace bel:=bv bel bb
   clear bb
   clear hc hf
   obtain⟨hc,hf⟩:=hZ bel
   go_wp2_with fail
   have kc:=pz _ _ N1 N2 _ hN1' hN2'
   rw[<-HC.out] at kc
   refine kc.mono ?_
   intro e w3 hh
   obtain⟨rfl,bb,hsz⟩:=nh hh
   clear hh hsz kc
   replace hw1':=hw1'.below bb
   replace hw2':=hw2'.below bb
   replace hN1':=hN1'.below bb
   replace hN2':=hN2'.below bb
   replace bel:=bv bel bb
   clear bb
   clear hc hf
   obtain⟨hc,hf⟩:=hZ bel
   go_wp2
   go_ret
   exact⟨by first|rfl|exact dw (by omega)|(refine dw ?_;unfold wrap64;omega),hb0.trans (bel.mono hb0.size)⟩
 ·have hfin:=Lib.hid (Ac hs)
  rw[<-hfin.out]
  clear hfin
  obtain⟨s1,hs1⟩:∃s,s=sz (sg neg1 N1):=⟨_,rfl⟩
  obtain⟨s2,hs2⟩:∃s,s=sz (sg neg2 N2):=⟨_,rfl⟩
  rw[<-hs1,<-hs2] at hs ⊢
  have HS1:=Lib.hid hs1;have HS2:=Lib.hid hs2
  clear hs1 hs2
  have hb1:(s1 == s2)=false:=by simpa using hs
  clear hs
  go_enter Tryz.func79,Tryz.ntmps79
  go_wp2_with fail
  have kc:=dt _ (sg neg1 N1) _ hw1'
  rw[<-HS1.out] at kc
  refine kc.mono ?_
  rintro e w1 ⟨rfl,bb⟩
  clear kc
  replace hw1':=hw1'.below bb
  replace hw2':=hw2'.below bb
  replace hN1':=hN1'.below bb
  replace hN2':=hN2'.below bb
  have bel:=bb
  clear bb
  obtain⟨hc,hf⟩:=hZ bel
  go_wp2_with fail
  have kc:=dt _ (sg neg2 N2) _ hw2'
  rw[<-HS2.out] at kc
  refine kc.mono ?_
  rintro e w2 ⟨rfl,bb⟩
  clear kc
  replace hw1':=hw1'.below bb
  replace hw2':=hw2'.below bb
  replace hN1':=hN1'.below bb
  replace hN2':=hN2'.below bb
  replace bel:=bv bel bb
  clear bb
  clear hc hf
  obtain⟨hc,hf⟩:=hZ bel
  go_wp2_with fail
  have kc:=dt _ (sg neg2 N2) _ hw2'
  rw[<-HS2.out] at kc
  refine kc.mono ?_
  rintro e w3 ⟨rfl,bb⟩
  clear kc
  replace hw1':=hw1'.below bb
  replace hw2':=hw2'.below bb
  replace hN1':=hN1'.below bb
  replace hN2':=hN2'.below bb
  replace bel:=bv bel bb
  clear bb
  clear hc hf
  obtain⟨hc,hf⟩:=hZ bel
  go_wp2_with fail
  refine(BV s1 s2 _).mono ?_
  rintro e wx ⟨rfl,hw⟩
  have hw:=hw.symm;subst hw
  go_wp2
  go_ret
  exact⟨by first|rfl|exact dw (by omega)|(refine dw ?_;unfold wrap64;omega),hb0.trans (bel.mono hb0.size)⟩
end
section
def gu (w:World) (u:Value) (b:Bool) (e:Ending) (w':World):Prop:=e= .returned (.tuple #[u,.bool b])/\Below w.heap.size w w'
theorem mB (v:Value) (N:Nat) (w:World) (h:Nt w v N) (hl:N<18446744073709551616):CP 222 #[v] w fun e w'=>e= .returned (.tuple #[.int .u64 N,.bool true])/\w'=w:=by
 have hd:dl 2 N<=64:=ia (by omega) (Nat.lt_of_lt_of_le hl (by decide))
 have:=sT v N w h
 unfold nS at this
 rw[if_pos hd,show decide (dl 2 N<=64)=true from by simpa using hd] at this
 exact this
theorem uR (v:Value) (N:Nat) (w:World) (h:Nt w v N) (hl:18446744073709551616<=N):CP 222 #[v] w fun e w'=>e= .returned (.tuple #[.int .u64 (0:Nat),.bool false])/\w'=w:=by
 have hd:¬dl 2 N<=64:=by
  intro hh
  have h1:=jE (b:=2) (by omega) N
  have h2:(2:Nat)^dl 2 N<=2^64:=Nat.pow_le_pow_right (by omega) hh
  have h3:(2:Nat)^64=18446744073709551616:=by decide
  omega
 have:=sT v N w h
 unfold nS at this
 rw[if_neg hd,show decide (dl 2 N<=64)=false from by simpa using hd] at this
 exact this
theorem uA (ad:Option Addr) (n cap N:Nat) (w:World) (hN:Nt w (.slice ad n cap) N) (hc:N<=9223372036854775807):
 CP 174 #[.agg #[.bool false,.slice ad n cap]] w (gu w (.int .i64 (N:Nat)) true):=by
 have hb0:=(Below.refl w.heap.size w).alloc (Nat.le_refl _) (.cells #[.bool false,.slice ad n cap] 31)
 have hN':=hN.below hb0
 have KU:=Lib.hid (mB _ N _ hN' (by omega))
 go_enter Tryz.func174,Tryz.ntmps174
 go_wp2_with fail
 refine KU.out.mono ?_
 rintro e wx ⟨rfl,hw⟩
 have hw:=hw.symm;subst hw
 clear KU
 go_wp2
 go_ret2
 exact⟨rfl,hb0⟩
theorem ud (ad:Option Addr) (n cap N:Nat) (w:World) (hN:Nt w (.slice ad n cap) N) (hc:9223372036854775807<N/\N<18446744073709551616):
 CP 174 #[.agg #[.bool false,.slice ad n cap]] w (gu w (.int .i64 0) false):=by
 have hb0:=(Below.refl w.heap.size w).alloc (Nat.le_refl _) (.cells #[.bool false,.slice ad n cap] 31)
 have hN':=hN.below hb0
 have KU:=Lib.hid (mB _ N _ hN' (by omega))
 go_enter Tryz.func174,Tryz.ntmps174
 go_wp2_with fail
 refine KU.out.mono ?_
 rintro e wx ⟨rfl,hw⟩
 have hw:=hw.symm;subst hw
 clear KU
 go_wp2
 go_ret2
 exact⟨rfl,hb0⟩
theorem wR (ad:Option Addr) (n cap N:Nat) (w:World) (hN:Nt w (.slice ad n cap) N) (hc:18446744073709551616<=N):
 CP 174 #[.agg #[.bool false,.slice ad n cap]] w (gu w (.int .i64 0) false):=by
 have hb0:=(Below.refl w.heap.size w).alloc (Nat.le_refl _) (.cells #[.bool false,.slice ad n cap] 31)
 have hN':=hN.below hb0
 have KU:=Lib.hid (uR _ N _ hN' (by omega))
 clear hc
 go_enter Tryz.func174,Tryz.ntmps174
 go_wp2_with fail
 refine KU.out.mono ?_
 rintro e wx ⟨rfl,hw⟩
 have hw:=hw.symm;subst hw
 clear KU
 go_wp2
 go_ret2
 exact⟨rfl,hb0⟩
theorem uv (ad:Option Addr) (n cap N:Nat) (w:World) (hN:Nt w (.slice ad n cap) N) (hc:N<=9223372036854775808):
 CP 174 #[.agg #[.bool true,.slice ad n cap]] w (gu w (.int .i64 (-(N:Int))) true):=by
 have hb0:=(Below.refl w.heap.size w).alloc (Nat.le_refl _) (.cells #[.bool true,.slice ad n cap] 31)
 have hN':=hN.below hb0
 have KU:=Lib.hid (mB _ N _ hN' (by omega))
 have EW:=Lib.hid (show wrap64 (IntKind.u64.wrap (-(N:Int)))= -(N:Int) by unfold wrap64;rw[IntKind.wrap_u64];omega)
 go_enter Tryz.func174,Tryz.ntmps174
 go_wp2_with fail
 refine KU.out.mono ?_
 rintro e wx ⟨rfl,hw⟩
 have hw:=hw.symm;subst hw
 clear KU
 go_wp2
 go_ret2
 exact⟨by show Ending.returned (.tuple #[.int .i64 (wrap64 (IntKind.u64.wrap (-(N:Int)))),.bool true])=_;rw[EW.out],hb0⟩
theorem uz (ad:Option Addr) (n cap N:Nat) (w:World) (hN:Nt w (.slice ad n cap) N) (hc:9223372036854775808<N/\N<18446744073709551616):
 CP 174 #[.agg #[.bool true,.slice ad n cap]] w (gu w (.int .i64 0) false):=by
 have hb0:=(Below.refl w.heap.size w).alloc (Nat.le_refl _) (.cells #[.bool true,.slice ad n cap] 31)
 have hN':=hN.below hb0
 have KU:=Lib.hid (mB _ N _ hN' (by omega))
 go_enter Tryz.func174,Tryz.ntmps174
 go_wp2_with fail
 refine KU.out.mono ?_
 rintro e wx ⟨rfl,hw⟩
 have hw:=hw.symm;subst hw
 clear KU
 go_wp2
 go_ret2
 exact⟨rfl,hb0⟩
theorem wn (ad:Option Addr) (n cap N:Nat) (w:World) (hN:Nt w (.slice ad n cap) N) (hc:18446744073709551616<=N):
 CP 174 #[.agg #[.bool true,.slice ad n cap]] w (gu w (.int .i64 0) false):=by
 have hb0:=(Below.refl w.heap.size w).alloc (Nat.le_refl _) (.cells #[.bool true,.slice ad n cap] 31)
 have hN':=hN.below hb0
 have KU:=Lib.hid (uR _ N _ hN' (by omega))
 clear hc
 go_enter Tryz.func174,Tryz.ntmps174
 go_wp2_with fail
 refine KU.out.mono ?_
 rintro e wx ⟨rfl,hw⟩
 have hw:=hw.symm;subst hw
 clear KU
 go_wp2
 go_ret2
 exact⟨rfl,hb0⟩
theorem ur (v:Value) (z:Int) (w:World) (h:Wz w v z) (h0: -9223372036854775808<=z) (h1:z<=9223372036854775807):CP 174 #[v] w (gu w (.int .i64 z) true):=by
 obtain⟨neg,ad,n,cap,N,rfl,hN,rfl⟩:=h.shape
 cases neg with
 |false=>rw[cK] at*;exact uA ad n cap N w hN (by omega)
 |true=>rw[di] at*;exact uv ad n cap N w hN (by omega)
theorem xt (v:Value) (z:Int) (w:World) (h:Wz w v z) (hz:z< -9223372036854775808\/9223372036854775807<z):CP 174 #[v] w (gu w (.int .i64 0) false):=by
 obtain⟨neg,ad,n,cap,N,rfl,hN,rfl⟩:=h.shape
 cases neg with
 |false=>
  rw[cK] at*
  by_cases hh:N<18446744073709551616
  ·exact ud ad n cap N w hN (by omega)
  ·exact wR ad n cap N w hN (by omega)
 |true=>
  rw[di] at*
  by_cases hh:N<18446744073709551616
  ·exact uz ad n cap N w hN (by omega)
  ·exact wn ad n cap N w hN (by omega)
end
end
end Go.Proofs.YtgdpkknapcgcbaaGreatDoor
