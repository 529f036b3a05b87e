import Derived.Test.YtplngpfpcheofaaKC14
import Derived.Test.YtplngpfpcheofaaKC16
import Derived.Deep.RegionHeld3
namespace Go.Proofs.Ytplngpfpcheofaa
open Go.RowKit
set_option maxRecDepth 100000
set_option linter.unusedVariables false
set_option maxHeartbeats 8000000
section
section
theorem sg_mul (b c:Bool) (N M:Nat):sg (!(b == c)) (N*M)=sg b N*sg c M:=by
 cases b <;> cases c <;> simp[sg,Int.mul_neg,Int.neg_mul]
theorem whMul_any (v1 v2:Value) (z1 z2:Int) (a b:Nat) (w:World) (h1:Wz w v1 z1) (h2:Wz w v2 z2) (l1:Lim z1.natAbs a) (l2:Lim z2.natAbs b) (ha:a≤1000000) (hb:b≤1000000):
 Calls Try.prog 34 #[v1,v2] w (WcPost w (z1*z2)):=by
 obtain⟨neg1,ad1,n1,cap1,N1,rfl,hN1,rfl⟩:=h1.shape
 obtain⟨neg2,ad2,n2,cap2,N2,rfl,hN2,rfl⟩:=h2.shape
 have hb0:=(((Below.refl w.heap.size w).alloc (Nat.le_refl _) (.cells #[.bool neg1,.slice ad1 n1 cap1] 30)).alloc (by simp) (.cells #[.bool neg2,.slice ad2 n2 cap2] 30)).alloc (by simp;omega) (.cells #[.bool false,.slice none 0 0] 30)
 rw[sg_natAbs] at l1 l2
 have bd:Below (((w.alloc (.cells #[.bool neg1,.slice ad1 n1 cap1] 30)).alloc (.cells #[.bool neg2,.slice ad2 n2 cap2] 30)).alloc (.cells #[.bool false,.slice none 0 0] 30)).heap.size (((w.alloc (.cells #[.bool neg1,.slice ad1 n1 cap1] 30)).alloc (.cells #[.bool neg2,.slice ad2 n2 cap2] 30)).alloc (.cells #[.bool false,.slice none 0 0] 30)) (((w.alloc (.cells #[.bool neg1,.slice ad1 n1 cap1] 30)).alloc (.cells #[.bool neg2,.slice ad2 n2 cap2] 30)).alloc (.cells #[.bool false,.slice none 0 0] 30)).drew :=(Below.refl _ _).drew
 have hN1':=(hN1.below hb0).below bd
 have hN2':=(hN2.below hb0).below bd
 have ES:=Lib.hid (sg_mul neg1 neg2 N1 N2)
 have c00:(w.alloc (.cells #[.bool neg1,.slice ad1 n1 cap1] 30)).cell? ⟨w.heap.size,0,none⟩=some (.bool neg1):=by simp
 replace c00:=(World.cell?_alloc_old (w.alloc (.cells #[.bool neg1,.slice ad1 n1 cap1] 30)) (.cells #[.bool neg2,.slice ad2 n2 cap2] 30) ⟨w.heap.size,0,none⟩ (by first|(simp;done)|(simp;omega))).trans c00
 replace c00:=(World.cell?_alloc_old ((w.alloc (.cells #[.bool neg1,.slice ad1 n1 cap1] 30)).alloc (.cells #[.bool neg2,.slice ad2 n2 cap2] 30)) (.cells #[.bool false,.slice none 0 0] 30) ⟨w.heap.size,0,none⟩ (by first|(simp;done)|(simp;omega))).trans c00
 have c01:(w.alloc (.cells #[.bool neg1,.slice ad1 n1 cap1] 30)).cell? ⟨w.heap.size,1,none⟩=some (.slice ad1 n1 cap1):=by simp
 replace c01:=(World.cell?_alloc_old (w.alloc (.cells #[.bool neg1,.slice ad1 n1 cap1] 30)) (.cells #[.bool neg2,.slice ad2 n2 cap2] 30) ⟨w.heap.size,1,none⟩ (by first|(simp;done)|(simp;omega))).trans c01
 replace c01:=(World.cell?_alloc_old ((w.alloc (.cells #[.bool neg1,.slice ad1 n1 cap1] 30)).alloc (.cells #[.bool neg2,.slice ad2 n2 cap2] 30)) (.cells #[.bool false,.slice none 0 0] 30) ⟨w.heap.size,1,none⟩ (by first|(simp;done)|(simp;omega))).trans c01
 have c10:((w.alloc (.cells #[.bool neg1,.slice ad1 n1 cap1] 30)).alloc (.cells #[.bool neg2,.slice ad2 n2 cap2] 30)).cell? ⟨(w.heap.size+1),0,none⟩=some (.bool neg2):=by simp
 replace c10:=(World.cell?_alloc_old ((w.alloc (.cells #[.bool neg1,.slice ad1 n1 cap1] 30)).alloc (.cells #[.bool neg2,.slice ad2 n2 cap2] 30)) (.cells #[.bool false,.slice none 0 0] 30) ⟨(w.heap.size+1),0,none⟩ (by first|(simp;done)|(simp;omega))).trans c10
 have c11:((w.alloc (.cells #[.bool neg1,.slice ad1 n1 cap1] 30)).alloc (.cells #[.bool neg2,.slice ad2 n2 cap2] 30)).cell? ⟨(w.heap.size+1),1,none⟩=some (.slice ad2 n2 cap2):=by simp
 replace c11:=(World.cell?_alloc_old ((w.alloc (.cells #[.bool neg1,.slice ad1 n1 cap1] 30)).alloc (.cells #[.bool neg2,.slice ad2 n2 cap2] 30)) (.cells #[.bool false,.slice none 0 0] 30) ⟨(w.heap.size+1),1,none⟩ (by first|(simp;done)|(simp;omega))).trans c11
 have hne:w.heap.size+1+1≠w.heap.size:=by omega
 have L1:=Lib.hid (l1.dl _ ha);have L2:=Lib.hid (l2.dl _ hb)
 go_enter Try.func34,Try.ntmps34
 go_wp2
 go_region_held3 (fun w'=>w'.cell? ⟨w.heap.size,0,none⟩=some (.bool neg1)∧w'.cell? ⟨w.heap.size,1,none⟩=some (.slice ad1 n1 cap1)∧w'.cell? ⟨(w.heap.size+1),0,none⟩=some (.bool neg2)∧w'.cell? ⟨(w.heap.size+1),1,none⟩=some (.slice ad2 n2 cap2)) (first|exact⟨s00,s01,s10,s11⟩|go_keep)
  (first
  |(go_at_call 29;refine(mul_any _ _ N1 N2 _ hN1' hN2' L1.out L2.out).mono ?_;rintro e w1 ⟨v3,rfl,d3,b1⟩;have bel:=bd.trans b1;have s00:=(bel.cell (p:=⟨w.heap.size,0,none⟩) (by first|(simp;done)|(simp;omega))).trans c00;have s01:=(bel.cell (p:=⟨w.heap.size,1,none⟩) (by first|(simp;done)|(simp;omega))).trans c01;have s10:=(bel.cell (p:=⟨(w.heap.size+1),0,none⟩) (by first|(simp;done)|(simp;omega))).trans c10;have s11:=(bel.cell (p:=⟨(w.heap.size+1),1,none⟩) (by first|(simp;done)|(simp;omega))).trans c11)
  |(go_at_call 36;refine(signed_any _ _ _ _ d3).mono ?_;rintro e w2 ⟨v9,rfl,h9,b2⟩;rw[ES.out] at h9;replace bel:=below_to bel b2;clear s00 s01 s10 s11;have s00:=(bel.cell (p:=⟨w.heap.size,0,none⟩) (by first|(simp;done)|(simp;omega))).trans c00;have s01:=(bel.cell (p:=⟨w.heap.size,1,none⟩) (by first|(simp;done)|(simp;omega))).trans c01;have s10:=(bel.cell (p:=⟨(w.heap.size+1),0,none⟩) (by first|(simp;done)|(simp;omega))).trans c10;have s11:=(bel.cell (p:=⟨(w.heap.size+1),1,none⟩) (by first|(simp;done)|(simp;omega))).trans c11;obtain⟨hc,hf⟩:=bcell bel;obtain⟨b9,ad9,n9,cap9,rfl⟩:=h9.form))
 have ni9:NoInt (((w.alloc (.cells #[.bool neg1,.slice ad1 n1 cap1] 30)).alloc (.cells #[.bool neg2,.slice ad2 n2 cap2] 30)).alloc (.cells #[.bool false,.slice none 0 0] 30)) (w.heap.size+2):=by
  have k0:=NoInt.box (w:=((w.alloc (.cells #[.bool neg1,.slice ad1 n1 cap1] 30)).alloc (.cells #[.bool neg2,.slice ad2 n2 cap2] 30))) (l:=[.bool false,.slice none 0 0]) (T:=30) (by simp[notInt_bool,notInt_slice])
  have e0:((w.alloc (.cells #[.bool neg1,.slice ad1 n1 cap1] 30)).alloc (.cells #[.bool neg2,.slice ad2 n2 cap2] 30)).heap.size =(w.heap.size+2):=by simp
  rw[e0] at k0
  exact k0
 obtain⟨bel9,kp⟩:=store2 hb0 (by omega) (by simp) ni9 bel (.bool b9) (.slice ad9 n9 cap9) (notInt_bool _)
 go_wp2
 exact bodyPost_ret (by simp[results,Try.results34,go_sem,hc]) rfl ⟨_,rfl,kp.wc h9,bel9⟩
end
section
def fr (a b:Int):Int:=if b=0 then 0 else a.fmod b
end
section
end
section
def ci (x y:Int):Int:=if x<y then -1 else if y<x then 1 else 0
theorem ci_lt {x y:Int} (h:x<y):ci x y= -1:=by unfold ci;rw[if_pos h]
theorem ci_gt {x y:Int} (h:y<x):ci x y=1:=by unfold ci;rw[if_neg (by omega),if_pos h]
theorem ci_eq {x y:Int} (h:x=y):ci x y=0:=by unfold ci;rw[if_neg (by omega),if_neg (by omega)]
theorem nanI_any (x:Int) (w:World):Calls Try.prog 47 #[.int .i64 x] w fun e w'=>e= .returned (.bool false)∧w'=w:=by
 go_enter Try.func47,Try.ntmps47
 go_wp2
 go_ret
 exact⟨rfl,rfl⟩
theorem cmpI_any (x y:Int) (w:World):Calls Try.prog 35 #[.int .i64 x,.int .i64 y] w fun e w'=>e= .returned (.int .i64 (ci x y))∧w'=w:=by
 rcases Int.lt_trichotomy x y with h|h|h
 ·rw[ci_lt h]
  go_enter Try.func35,Try.ntmps35
  go_wp2_with (go_at_call 47;refine(nanI_any _ _).mono ?_;rintro e w2 ⟨rfl,hw⟩;have hw:=hw.symm;subst hw)
  go_ret
  exact⟨rfl,rfl⟩
 ·rw[ci_eq h]
  subst h
  go_enter Try.func35,Try.ntmps35
  go_wp2_with (go_at_call 47;refine(nanI_any _ _).mono ?_;rintro e w2 ⟨rfl,hw⟩;have hw:=hw.symm;subst hw)
  go_ret
  exact⟨rfl,rfl⟩
 ·rw[ci_gt h]
  have h':¬x<y:=by omega
  go_enter Try.func35,Try.ntmps35
  go_wp2_with (go_at_call 47;refine(nanI_any _ _).mono ?_;rintro e w2 ⟨rfl,hw⟩;have hw:=hw.symm;subst hw)
  go_ret
  exact⟨rfl,rfl⟩
theorem sz_cases (z:Int):sz z= -1∨sz z=0∨sz z=1:=by unfold sz;split <;> (try split) <;> simp
theorem ci_signs {x y:Int} (h:¬sz x=sz y):ci (sz x) (sz y)=ci x y:=by
 unfold sz at*
 unfold ci
 split at h <;> split at h <;> (try split at h) <;> (try split at h) <;> simp_all <;> omega
theorem ci_mul (b c:Bool) {N M:Nat} (h:sz (sg b N)=sz (sg c M)):sz (sg b N)*c3 N M=ci (sg b N) (sg c M):=by
 unfold sz ci c3 sg at*
 cases b <;> cases c <;> simp at* <;> split at h <;> (try split at h) <;> (try split at h) <;> (try split at h) <;> (try split) <;> (try split) <;> (try split) <;> (try split) <;> omega
theorem whCmp_any (v1 v2:Value) (z1 z2:Int) (w:World) (h1:Wz w v1 z1) (h2:Wz w v2 z2):
 Calls Try.prog 22 #[v1,v2] w (IntPost w (ci z1 z2)):=by
 obtain⟨neg1,ad1,n1,cap1,N1,rfl,hN1,rfl⟩:=h1.shape
 obtain⟨neg2,ad2,n2,cap2,N2,rfl,hN2,rfl⟩:=h2.shape
 have hb0:=((Below.refl w.heap.size w).alloc (Nat.le_refl _) (.cells #[.bool neg1,.slice ad1 n1 cap1] 30)).alloc (by simp) (.cells #[.bool neg2,.slice ad2 n2 cap2] 30)
 have hw1':=h1.below hb0;have hw2':=h2.below hb0
 have hN1':=hN1.below hb0;have hN2':=hN2.below hb0
 by_cases hs:sz (sg neg1 N1)=sz (sg neg2 N2)
 ·have hfin:=Lib.hid (ci_mul neg1 neg2 hs)
  have hcr:=c3_range N1 N2
  rw[hs] at hfin
  have HS:=Lib.hid hs
  obtain⟨c,hcc⟩:∃c,c=c3 N1 N2:=⟨_,rfl⟩
  rw[←hcc] at hfin hcr
  have HC:=Lib.hid hcc
  clear hcc hs
  have h3:=sz_cases (sg neg2 N2)
  obtain⟨s,hss⟩:∃s,s=sz (sg neg2 N2):=⟨_,rfl⟩
  rw[←hss] at h3 hfin
  have HSS:=Lib.hid hss
  clear hss
  obtain⟨hcr1,hcr2⟩:=hcr
  rw[←hfin.out]
  clear hfin
  rcases h3 with rfl|rfl|rfl
  all_goals
   go_enter Try.func22,Try.ntmps22
   go_wp2_with fail
   have kc:=whSign_any _ (sg neg1 N1) _ hw1'
   rw[HS.out,←HSS.out] at kc
   refine kc.mono ?_
   rintro e w1 ⟨rfl,bb⟩
   clear kc
   replace hw1':=hw1'.below bb
   replace hw2':=hw2'.below bb
   replace hN1':=hN1'.below bb
   replace hN2':=hN2'.below bb
   have bel:=bb
   clear bb
   obtain⟨hc,hf⟩:=bcell bel
   go_wp2_with fail
   have kc:=whSign_any _ (sg neg2 N2) _ hw2'
   rw[←HSS.out] at kc
   refine kc.mono ?_
   rintro e w2 ⟨rfl,bb⟩
   clear kc
   replace hw1':=hw1'.below bb
   replace hw2':=hw2'.below bb
   replace hN1':=hN1'.below bb
   replace hN2':=hN2'.below bb
   replace bel:=below_to bel bb
   clear bb
   clear hc hf
   obtain⟨hc,hf⟩:=bcell bel
   go_wp2_with fail
   have kc:=cmp_any _ _ N1 N2 _ hN1' hN2'
   rw[←HC.out] at kc
   refine kc.mono ?_
   intro e w3 hh
   obtain⟨rfl,bb,hsz⟩:=quiet_below hh
   clear hh hsz kc
   replace hw1':=hw1'.below bb
   replace hw2':=hw2'.below bb
   replace hN1':=hN1'.below bb
   replace hN2':=hN2'.below bb
   replace bel:=below_to bel bb
   clear bb
   clear hc hf
   obtain⟨hc,hf⟩:=bcell bel
   go_wp2
   go_ret
   exact⟨by first|rfl|exact ret_int (by omega)|(refine ret_int ?_;unfold wrap64;omega),hb0.trans (bel.mono hb0.size)⟩
 ·have hfin:=Lib.hid (ci_signs hs)
  rw[←hfin.out]
  clear hfin
  obtain⟨s1,hs1⟩:∃s,s=sz (sg neg1 N1):=⟨_,rfl⟩
  obtain⟨s2,hs2⟩:∃s,s=sz (sg neg2 N2):=⟨_,rfl⟩
  rw[←hs1,←hs2] at hs ⊢
  have HS1:=Lib.hid hs1;have HS2:=Lib.hid hs2
  clear hs1 hs2
  have hb1:(s1 == s2)=false:=by simpa using hs
  clear hs
  go_enter Try.func22,Try.ntmps22
  go_wp2_with fail
  have kc:=whSign_any _ (sg neg1 N1) _ hw1'
  rw[←HS1.out] at kc
  refine kc.mono ?_
  rintro e w1 ⟨rfl,bb⟩
  clear kc
  replace hw1':=hw1'.below bb
  replace hw2':=hw2'.below bb
  replace hN1':=hN1'.below bb
  replace hN2':=hN2'.below bb
  have bel:=bb
  clear bb
  obtain⟨hc,hf⟩:=bcell bel
  go_wp2_with fail
  have kc:=whSign_any _ (sg neg2 N2) _ hw2'
  rw[←HS2.out] at kc
  refine kc.mono ?_
  rintro e w2 ⟨rfl,bb⟩
  clear kc
  replace hw1':=hw1'.below bb
  replace hw2':=hw2'.below bb
  replace hN1':=hN1'.below bb
  replace hN2':=hN2'.below bb
  replace bel:=below_to bel bb
  clear bb
  clear hc hf
  obtain⟨hc,hf⟩:=bcell bel
  go_wp2_with fail
  have kc:=whSign_any _ (sg neg2 N2) _ hw2'
  rw[←HS2.out] at kc
  refine kc.mono ?_
  rintro e w3 ⟨rfl,bb⟩
  clear kc
  replace hw1':=hw1'.below bb
  replace hw2':=hw2'.below bb
  replace hN1':=hN1'.below bb
  replace hN2':=hN2'.below bb
  replace bel:=below_to bel bb
  clear bb
  clear hc hf
  obtain⟨hc,hf⟩:=bcell bel
  go_wp2_with fail
  refine(cmpI_any s1 s2 _).mono ?_
  rintro e wx ⟨rfl,hw⟩
  have hw:=hw.symm;subst hw
  go_wp2
  go_ret
  exact⟨by first|rfl|exact ret_int (by omega)|(refine ret_int ?_;unfold wrap64;omega),hb0.trans (bel.mono hb0.size)⟩
end
section
end
end
end Go.Proofs.Ytplngpfpcheofaa
