import Derived.Test.YtpkhdajnppoinaaGreatKC9
import Derived.Test.YtpkhdajnppoinaaGreatKC17
import Derived.Deep.RegionHeld3
namespace Go.Proofs.YtpkhdajnppoinaaGreat
open Go.RowKit
set_option maxRecDepth 100000
set_option linter.unusedVariables false
set_option maxHeartbeats 8000000
section
section
theorem sg_mul (b c:Bool) (N M:Nat):sg (!(b == c)) (N*M)=sg b N*sg c M:=by
 cases b <;> cases c <;> simp[sg,Int.mul_neg,Int.neg_mul]
end
section
def fr (a b:Int):Int:=if b=0 then 0 else a.fmod b
end
section
end
section
def ci (x y:Int):Int:=if x<y then -1 else if y<x then 1 else 0
theorem ci_lt {x y:Int} (h:x<y):ci x y= -1:=by unfold ci;rw[if_pos h]
theorem ci_gt {x y:Int} (h:y<x):ci x y=1:=by unfold ci;rw[if_neg (by omega),if_pos h]
theorem ci_eq {x y:Int} (h:x=y):ci x y=0:=by unfold ci;rw[if_neg (by omega),if_neg (by omega)]
theorem nanI_any (x:Int) (w:World):Calls Tryz.prog 69 #[.int .i64 x] w fun e w'=>e= .returned (.bool false)∧w'=w:=by
 go_enter Tryz.func69,Tryz.ntmps69
 go_wp2
 go_ret
 exact⟨rfl,rfl⟩
theorem cmpI_any (x y:Int) (w:World):Calls Tryz.prog 40 #[.int .i64 x,.int .i64 y] w fun e w'=>e= .returned (.int .i64 (ci x y))∧w'=w:=by
 rcases Int.lt_trichotomy x y with h|h|h
 ·rw[ci_lt h]
  go_enter Tryz.func40,Tryz.ntmps40
  go_wp2_with (go_at_call 69;refine(nanI_any _ _).mono ?_;rintro e w2 ⟨rfl,hw⟩;have hw:=hw.symm;subst hw)
  go_ret
  exact⟨rfl,rfl⟩
 ·rw[ci_eq h]
  subst h
  go_enter Tryz.func40,Tryz.ntmps40
  go_wp2_with (go_at_call 69;refine(nanI_any _ _).mono ?_;rintro e w2 ⟨rfl,hw⟩;have hw:=hw.symm;subst hw)
  go_ret
  exact⟨rfl,rfl⟩
 ·rw[ci_gt h]
  have h':¬x<y:=by omega
  go_enter Tryz.func40,Tryz.ntmps40
  go_wp2_with (go_at_call 69;refine(nanI_any _ _).mono ?_;rintro e w2 ⟨rfl,hw⟩;have hw:=hw.symm;subst hw)
  go_ret
  exact⟨rfl,rfl⟩
theorem sz_cases (z:Int):sz z= -1∨sz z=0∨sz z=1:=by unfold sz;split <;> (try split) <;> simp
theorem ci_signs {x y:Int} (h:¬sz x=sz y):ci (sz x) (sz y)=ci x y:=by
 unfold sz at*
 unfold ci
 split at h <;> split at h <;> (try split at h) <;> (try split at h) <;> simp_all <;> omega
theorem ci_mul (b c:Bool) {N M:Nat} (h:sz (sg b N)=sz (sg c M)):sz (sg b N)*c3 N M=ci (sg b N) (sg c M):=by
 unfold sz ci c3 sg at*
 cases b <;> cases c <;> simp at* <;> split at h <;> (try split at h) <;> (try split at h) <;> (try split at h) <;> (try split) <;> (try split) <;> (try split) <;> (try split) <;> omega
theorem whCmp_any (v1 v2:Value) (z1 z2:Int) (w:World) (h1:Wz w v1 z1) (h2:Wz w v2 z2):
 Calls Tryz.prog 14 #[v1,v2] w (IntPost w (ci z1 z2)):=by
 obtain⟨neg1,ad1,n1,cap1,N1,rfl,hN1,rfl⟩:=h1.shape
 obtain⟨neg2,ad2,n2,cap2,N2,rfl,hN2,rfl⟩:=h2.shape
 have hb0:=((Below.refl w.heap.size w).alloc (Nat.le_refl _) (.cells #[.bool neg1,.slice ad1 n1 cap1] 44)).alloc (by simp) (.cells #[.bool neg2,.slice ad2 n2 cap2] 44)
 have hw1':=h1.below hb0;have hw2':=h2.below hb0
 have hN1':=hN1.below hb0;have hN2':=hN2.below hb0
 by_cases hs:sz (sg neg1 N1)=sz (sg neg2 N2)
 ·have hfin:=Lib.hid (ci_mul neg1 neg2 hs)
  have hcr:=c3_range N1 N2
  rw[hs] at hfin
  have HS:=Lib.hid hs
  obtain⟨c,hcc⟩:∃c,c=c3 N1 N2:=⟨_,rfl⟩
  rw[←hcc] at hfin hcr
  have HC:=Lib.hid hcc
  clear hcc hs
  have h3:=sz_cases (sg neg2 N2)
  obtain⟨s,hss⟩:∃s,s=sz (sg neg2 N2):=⟨_,rfl⟩
  rw[←hss] at h3 hfin
  have HSS:=Lib.hid hss
  clear hss
  obtain⟨hcr1,hcr2⟩:=hcr
  rw[←hfin.out]
  clear hfin
  rcases h3 with rfl|rfl|rfl
  all_goals
   go_enter Tryz.func14,Tryz.ntmps14
   go_wp2_with fail
   have kc:=whSign_any _ (sg neg1 N1) _ hw1'
   rw[HS.out,←HSS.out] at kc
   refine kc.mono ?_
   rintro e w1 ⟨rfl,bb⟩
   clear kc
   replace hw1':=hw1'.below bb
   replace hw2':=hw2'.below bb
   replace hN1':=hN1'.below bb
   replace hN2':=hN2'.below bb
   have bel:=bb
   clear bb
   obtain⟨hc,hf⟩:=bcell bel
   go_wp2_with fail
   have kc:=whSign_any _ (sg neg2 N2) _ hw2'
   rw[←HSS.out] at kc
   refine kc.mono ?_
   rintro e w2 ⟨rfl,bb⟩
   clear kc
   replace hw1':=hw1'.below bb
   replace hw2':=hw2'.below bb
   replace hN1':=hN1'.below bb
   replace hN2':=hN2'.below bb
   replace bel:=below_to bel bb
   clear bb
   clear hc hf
   obtain⟨hc,hf⟩:=bcell bel
   go_wp2_with fail
   have kc:=cmp_any _ _ N1 N2 _ hN1' hN2'
   rw[←HC.out] at kc
   refine kc.mono ?_
   intro e w3 hh
   obtain⟨rfl,bb,hsz⟩:=quiet_below hh
   clear hh hsz kc
   replace hw1':=hw1'.below bb
   replace hw2':=hw2'.below bb
   replace hN1':=hN1'.below bb
   replace hN2':=hN2'.below bb
   replace bel:=below_to bel bb
   clear bb
   clear hc hf
   obtain⟨hc,hf⟩:=bcell bel
   go_wp2
   go_ret
   exact⟨by first|rfl|exact ret_int (by omega)|(refine ret_int ?_;unfold wrap64;omega),hb0.trans (bel.mono hb0.size)⟩
 ·have hfin:=Lib.hid (ci_signs hs)
  rw[←hfin.out]
  clear hfin
  obtain⟨s1,hs1⟩:∃s,s=sz (sg neg1 N1):=⟨_,rfl⟩
  obtain⟨s2,hs2⟩:∃s,s=sz (sg neg2 N2):=⟨_,rfl⟩
  rw[←hs1,←hs2] at hs ⊢
  have HS1:=Lib.hid hs1;have HS2:=Lib.hid hs2
  clear hs1 hs2
  have hb1:(s1 == s2)=false:=by simpa using hs
  clear hs
  go_enter Tryz.func14,Tryz.ntmps14
  go_wp2_with fail
  have kc:=whSign_any _ (sg neg1 N1) _ hw1'
  rw[←HS1.out] at kc
  refine kc.mono ?_
  rintro e w1 ⟨rfl,bb⟩
  clear kc
  replace hw1':=hw1'.below bb
  replace hw2':=hw2'.below bb
  replace hN1':=hN1'.below bb
  replace hN2':=hN2'.below bb
  have bel:=bb
  clear bb
  obtain⟨hc,hf⟩:=bcell bel
  go_wp2_with fail
  have kc:=whSign_any _ (sg neg2 N2) _ hw2'
  rw[←HS2.out] at kc
  refine kc.mono ?_
  rintro e w2 ⟨rfl,bb⟩
  clear kc
  replace hw1':=hw1'.below bb
  replace hw2':=hw2'.below bb
  replace hN1':=hN1'.below bb
  replace hN2':=hN2'.below bb
  replace bel:=below_to bel bb
  clear bb
  clear hc hf
  obtain⟨hc,hf⟩:=bcell bel
  go_wp2_with fail
  have kc:=whSign_any _ (sg neg2 N2) _ hw2'
  rw[←HS2.out] at kc
  refine kc.mono ?_
  rintro e w3 ⟨rfl,bb⟩
  clear kc
  replace hw1':=hw1'.below bb
  replace hw2':=hw2'.below bb
  replace hN1':=hN1'.below bb
  replace hN2':=hN2'.below bb
  replace bel:=below_to bel bb
  clear bb
  clear hc hf
  obtain⟨hc,hf⟩:=bcell bel
  go_wp2_with fail
  refine(cmpI_any s1 s2 _).mono ?_
  rintro e wx ⟨rfl,hw⟩
  have hw:=hw.symm;subst hw
  go_wp2
  go_ret
  exact⟨by first|rfl|exact ret_int (by omega)|(refine ret_int ?_;unfold wrap64;omega),hb0.trans (bel.mono hb0.size)⟩
end
section
def TwoPost (w:World) (u:Value) (b:Bool) (e:Ending) (w':World):Prop:=e= .returned (.tuple #[u,.bool b])∧Below w.heap.size w w'
theorem uint_lo (v:Value) (N:Nat) (w:World) (h:Nt w v N) (hl:N<18446744073709551616):Calls Tryz.prog 75 #[v] w fun e w'=>e= .returned (.tuple #[.int .u64 N,.bool true])∧w'=w:=by
 have hd:dl 2 N≤64:=dl_le (by omega) (Nat.lt_of_lt_of_le hl (by decide))
 have:=uint_any v N w h
 unfold UintPost at this
 rw[if_pos hd,show decide (dl 2 N≤64)=true from by simpa using hd] at this
 exact this
theorem uint_hi (v:Value) (N:Nat) (w:World) (h:Nt w v N) (hl:18446744073709551616≤N):Calls Tryz.prog 75 #[v] w fun e w'=>e= .returned (.tuple #[.int .u64 (0:Nat),.bool false])∧w'=w:=by
 have hd:¬dl 2 N≤64:=by
  intro hh
  have h1:=lt_dl (b:=2) (by omega) N
  have h2:(2:Nat)^dl 2 N≤2^64:=Nat.pow_le_pow_right (by omega) hh
  have h3:(2:Nat)^64=18446744073709551616:=by decide
  omega
 have:=uint_any v N w h
 unfold UintPost at this
 rw[if_neg hd,show decide (dl 2 N≤64)=false from by simpa using hd] at this
 exact this
theorem small_f_yes (ad:Option Addr) (n cap N:Nat) (w:World) (hN:Nt w (.slice ad n cap) N) (hc:N≤9223372036854775807):
 Calls Tryz.prog 45 #[.agg #[.bool false,.slice ad n cap]] w (TwoPost w (.int .i64 (N:Nat)) true):=by
 have hb0:=(Below.refl w.heap.size w).alloc (Nat.le_refl _) (.cells #[.bool false,.slice ad n cap] 44)
 have hN':=hN.below hb0
 have KU:=Lib.hid (uint_lo _ N _ hN' (by omega))
 go_enter Tryz.func45,Tryz.ntmps45
 go_wp2_with fail
 refine KU.out.mono ?_
 rintro e wx ⟨rfl,hw⟩
 have hw:=hw.symm;subst hw
 clear KU
 go_wp2
 go_ret2
 exact⟨rfl,hb0⟩
theorem small_f_mid (ad:Option Addr) (n cap N:Nat) (w:World) (hN:Nt w (.slice ad n cap) N) (hc:9223372036854775807<N∧N<18446744073709551616):
 Calls Tryz.prog 45 #[.agg #[.bool false,.slice ad n cap]] w (TwoPost w (.int .i64 0) false):=by
 have hb0:=(Below.refl w.heap.size w).alloc (Nat.le_refl _) (.cells #[.bool false,.slice ad n cap] 44)
 have hN':=hN.below hb0
 have KU:=Lib.hid (uint_lo _ N _ hN' (by omega))
 go_enter Tryz.func45,Tryz.ntmps45
 go_wp2_with fail
 refine KU.out.mono ?_
 rintro e wx ⟨rfl,hw⟩
 have hw:=hw.symm;subst hw
 clear KU
 go_wp2
 go_ret2
 exact⟨rfl,hb0⟩
theorem small_f_no (ad:Option Addr) (n cap N:Nat) (w:World) (hN:Nt w (.slice ad n cap) N) (hc:18446744073709551616≤N):
 Calls Tryz.prog 45 #[.agg #[.bool false,.slice ad n cap]] w (TwoPost w (.int .i64 0) false):=by
 have hb0:=(Below.refl w.heap.size w).alloc (Nat.le_refl _) (.cells #[.bool false,.slice ad n cap] 44)
 have hN':=hN.below hb0
 have KU:=Lib.hid (uint_hi _ N _ hN' (by omega))
 clear hc
 go_enter Tryz.func45,Tryz.ntmps45
 go_wp2_with fail
 refine KU.out.mono ?_
 rintro e wx ⟨rfl,hw⟩
 have hw:=hw.symm;subst hw
 clear KU
 go_wp2
 go_ret2
 exact⟨rfl,hb0⟩
theorem small_t_yes (ad:Option Addr) (n cap N:Nat) (w:World) (hN:Nt w (.slice ad n cap) N) (hc:N≤9223372036854775808):
 Calls Tryz.prog 45 #[.agg #[.bool true,.slice ad n cap]] w (TwoPost w (.int .i64 (-(N:Int))) true):=by
 have hb0:=(Below.refl w.heap.size w).alloc (Nat.le_refl _) (.cells #[.bool true,.slice ad n cap] 44)
 have hN':=hN.below hb0
 have KU:=Lib.hid (uint_lo _ N _ hN' (by omega))
 have EW:=Lib.hid (show wrap64 (IntKind.u64.wrap (-(N:Int)))= -(N:Int) by unfold wrap64;rw[IntKind.wrap_u64];omega)
 go_enter Tryz.func45,Tryz.ntmps45
 go_wp2_with fail
 refine KU.out.mono ?_
 rintro e wx ⟨rfl,hw⟩
 have hw:=hw.symm;subst hw
 clear KU
 go_wp2
 go_ret2
 exact⟨by show Ending.returned (.tuple #[.int .i64 (wrap64 (IntKind.u64.wrap (-(N:Int)))),.bool true])=_;rw[EW.out],hb0⟩
theorem small_t_mid (ad:Option Addr) (n cap N:Nat) (w:World) (hN:Nt w (.slice ad n cap) N) (hc:9223372036854775808<N∧N<18446744073709551616):
 Calls Tryz.prog 45 #[.agg #[.bool true,.slice ad n cap]] w (TwoPost w (.int .i64 0) false):=by
 have hb0:=(Below.refl w.heap.size w).alloc (Nat.le_refl _) (.cells #[.bool true,.slice ad n cap] 44)
 have hN':=hN.below hb0
 have KU:=Lib.hid (uint_lo _ N _ hN' (by omega))
 go_enter Tryz.func45,Tryz.ntmps45
 go_wp2_with fail
 refine KU.out.mono ?_
 rintro e wx ⟨rfl,hw⟩
 have hw:=hw.symm;subst hw
 clear KU
 go_wp2
 go_ret2
 exact⟨rfl,hb0⟩
theorem small_t_no (ad:Option Addr) (n cap N:Nat) (w:World) (hN:Nt w (.slice ad n cap) N) (hc:18446744073709551616≤N):
 Calls Tryz.prog 45 #[.agg #[.bool true,.slice ad n cap]] w (TwoPost w (.int .i64 0) false):=by
 have hb0:=(Below.refl w.heap.size w).alloc (Nat.le_refl _) (.cells #[.bool true,.slice ad n cap] 44)
 have hN':=hN.below hb0
 have KU:=Lib.hid (uint_hi _ N _ hN' (by omega))
 clear hc
 go_enter Tryz.func45,Tryz.ntmps45
 go_wp2_with fail
 refine KU.out.mono ?_
 rintro e wx ⟨rfl,hw⟩
 have hw:=hw.symm;subst hw
 clear KU
 go_wp2
 go_ret2
 exact⟨rfl,hb0⟩
theorem whSmall_yes (v:Value) (z:Int) (w:World) (h:Wz w v z) (h0: -9223372036854775808≤z) (h1:z≤9223372036854775807):Calls Tryz.prog 45 #[v] w (TwoPost w (.int .i64 z) true):=by
 obtain⟨neg,ad,n,cap,N,rfl,hN,rfl⟩:=h.shape
 cases neg with
 |false=>rw[sg_false] at*;exact small_f_yes ad n cap N w hN (by omega)
 |true=>rw[sg_true] at*;exact small_t_yes ad n cap N w hN (by omega)
theorem whSmall_no (v:Value) (z:Int) (w:World) (h:Wz w v z) (hz:z< -9223372036854775808∨9223372036854775807<z):Calls Tryz.prog 45 #[v] w (TwoPost w (.int .i64 0) false):=by
 obtain⟨neg,ad,n,cap,N,rfl,hN,rfl⟩:=h.shape
 cases neg with
 |false=>
  rw[sg_false] at*
  by_cases hh:N<18446744073709551616
  ·exact small_f_mid ad n cap N w hN (by omega)
  ·exact small_f_no ad n cap N w hN (by omega)
 |true=>
  rw[sg_true] at*
  by_cases hh:N<18446744073709551616
  ·exact small_t_mid ad n cap N w hN (by omega)
  ·exact small_t_no ad n cap N w hN (by omega)
end
end
end Go.Proofs.YtpkhdajnppoinaaGreat
