import Derived.Test.YtnljadejcfgmaaaGreatDoorKC8
import Derived.Test.YtnljadejcfgmaaaGreatDoorKC12
import Derived.Deep.RegionHeld3
namespace Go.Proofs.YtnljadejcfgmaaaGreatDoor
open Go.RowKit
set_option maxRecDepth 100000
set_option linter.unusedVariables false
set_option maxHeartbeats 8000000
section
section
theorem sg_mul (b c:Bool) (N M:Nat):sg (!(b == c)) (N*M)=sg b N*sg c M:=by
 cases b <;> cases c <;> simp[sg,Int.mul_neg,Int.neg_mul]
theorem whMul_any (v1 v2:Value) (z1 z2:Int) (a b:Nat) (w:World) (h1:Wz w v1 z1) (h2:Wz w v2 z2) (l1:Lim z1.natAbs a) (l2:Lim z2.natAbs b) (ha:a≤1000000) (hb:b≤1000000):
 Calls Tryz.prog 150 #[v1,v2] w (WcPost w (z1*z2)):=by
 obtain⟨neg1,ad1,n1,cap1,N1,rfl,hN1,rfl⟩:=h1.shape
 obtain⟨neg2,ad2,n2,cap2,N2,rfl,hN2,rfl⟩:=h2.shape
 have hb0:=(((Below.refl w.heap.size w).alloc (Nat.le_refl _) (.cells #[.bool neg1,.slice ad1 n1 cap1] 31)).alloc (by simp) (.cells #[.bool neg2,.slice ad2 n2 cap2] 31)).alloc (by simp;omega) (.cells #[.bool false,.slice none 0 0] 31)
 rw[sg_natAbs] at l1 l2
 have bd:Below (((w.alloc (.cells #[.bool neg1,.slice ad1 n1 cap1] 31)).alloc (.cells #[.bool neg2,.slice ad2 n2 cap2] 31)).alloc (.cells #[.bool false,.slice none 0 0] 31)).heap.size (((w.alloc (.cells #[.bool neg1,.slice ad1 n1 cap1] 31)).alloc (.cells #[.bool neg2,.slice ad2 n2 cap2] 31)).alloc (.cells #[.bool false,.slice none 0 0] 31)) (((w.alloc (.cells #[.bool neg1,.slice ad1 n1 cap1] 31)).alloc (.cells #[.bool neg2,.slice ad2 n2 cap2] 31)).alloc (.cells #[.bool false,.slice none 0 0] 31)).drew :=(Below.refl _ _).drew
 have hN1':=(hN1.below hb0).below bd
 have hN2':=(hN2.below hb0).below bd
 have ES:=Lib.hid (sg_mul neg1 neg2 N1 N2)
 have c00:(w.alloc (.cells #[.bool neg1,.slice ad1 n1 cap1] 31)).cell? ⟨w.heap.size,0,none⟩=some (.bool neg1):=by simp
 replace c00:=(World.cell?_alloc_old (w.alloc (.cells #[.bool neg1,.slice ad1 n1 cap1] 31)) (.cells #[.bool neg2,.slice ad2 n2 cap2] 31) ⟨w.heap.size,0,none⟩ (by first|(simp;done)|(simp;omega))).trans c00
 replace c00:=(World.cell?_alloc_old ((w.alloc (.cells #[.bool neg1,.slice ad1 n1 cap1] 31)).alloc (.cells #[.bool neg2,.slice ad2 n2 cap2] 31)) (.cells #[.bool false,.slice none 0 0] 31) ⟨w.heap.size,0,none⟩ (by first|(simp;done)|(simp;omega))).trans c00
 have c01:(w.alloc (.cells #[.bool neg1,.slice ad1 n1 cap1] 31)).cell? ⟨w.heap.size,1,none⟩=some (.slice ad1 n1 cap1):=by simp
 replace c01:=(World.cell?_alloc_old (w.alloc (.cells #[.bool neg1,.slice ad1 n1 cap1] 31)) (.cells #[.bool neg2,.slice ad2 n2 cap2] 31) ⟨w.heap.size,1,none⟩ (by first|(simp;done)|(simp;omega))).trans c01
 replace c01:=(World.cell?_alloc_old ((w.alloc (.cells #[.bool neg1,.slice ad1 n1 cap1] 31)).alloc (.cells #[.bool neg2,.slice ad2 n2 cap2] 31)) (.cells #[.bool false,.slice none 0 0] 31) ⟨w.heap.size,1,none⟩ (by first|(simp;done)|(simp;omega))).trans c01
 have c10:((w.alloc (.cells #[.bool neg1,.slice ad1 n1 cap1] 31)).alloc (.cells #[.bool neg2,.slice ad2 n2 cap2] 31)).cell? ⟨(w.heap.size+1),0,none⟩=some (.bool neg2):=by simp
 replace c10:=(World.cell?_alloc_old ((w.alloc (.cells #[.bool neg1,.slice ad1 n1 cap1] 31)).alloc (.cells #[.bool neg2,.slice ad2 n2 cap2] 31)) (.cells #[.bool false,.slice none 0 0] 31) ⟨(w.heap.size+1),0,none⟩ (by first|(simp;done)|(simp;omega))).trans c10
 have c11:((w.alloc (.cells #[.bool neg1,.slice ad1 n1 cap1] 31)).alloc (.cells #[.bool neg2,.slice ad2 n2 cap2] 31)).cell? ⟨(w.heap.size+1),1,none⟩=some (.slice ad2 n2 cap2):=by simp
 replace c11:=(World.cell?_alloc_old ((w.alloc (.cells #[.bool neg1,.slice ad1 n1 cap1] 31)).alloc (.cells #[.bool neg2,.slice ad2 n2 cap2] 31)) (.cells #[.bool false,.slice none 0 0] 31) ⟨(w.heap.size+1),1,none⟩ (by first|(simp;done)|(simp;omega))).trans c11
 have hne:w.heap.size+1+1≠w.heap.size:=by omega
 have L1:=Lib.hid (l1.dl _ ha);have L2:=Lib.hid (l2.dl _ hb)
 go_enter Tryz.func150,Tryz.ntmps150
 go_wp2
 go_region_held3 (fun w'=>w'.cell? ⟨w.heap.size,0,none⟩=some (.bool neg1)∧w'.cell? ⟨w.heap.size,1,none⟩=some (.slice ad1 n1 cap1)∧w'.cell? ⟨(w.heap.size+1),0,none⟩=some (.bool neg2)∧w'.cell? ⟨(w.heap.size+1),1,none⟩=some (.slice ad2 n2 cap2)) (first|exact⟨s00,s01,s10,s11⟩|go_keep)
  (first
  |(go_at_call 120;refine(mul_any _ _ N1 N2 _ hN1' hN2' L1.out L2.out).mono ?_;rintro e w1 ⟨v3,rfl,d3,b1⟩;have bel:=bd.trans b1;have s00:=(bel.cell (p:=⟨w.heap.size,0,none⟩) (by first|(simp;done)|(simp;omega))).trans c00;have s01:=(bel.cell (p:=⟨w.heap.size,1,none⟩) (by first|(simp;done)|(simp;omega))).trans c01;have s10:=(bel.cell (p:=⟨(w.heap.size+1),0,none⟩) (by first|(simp;done)|(simp;omega))).trans c10;have s11:=(bel.cell (p:=⟨(w.heap.size+1),1,none⟩) (by first|(simp;done)|(simp;omega))).trans c11)
  |(go_at_call 154;refine(signed_any _ _ _ _ d3).mono ?_;rintro e w2 ⟨v9,rfl,h9,b2⟩;rw[ES.out] at h9;replace bel:=below_to bel b2;clear s00 s01 s10 s11;have s00:=(bel.cell (p:=⟨w.heap.size,0,none⟩) (by first|(simp;done)|(simp;omega))).trans c00;have s01:=(bel.cell (p:=⟨w.heap.size,1,none⟩) (by first|(simp;done)|(simp;omega))).trans c01;have s10:=(bel.cell (p:=⟨(w.heap.size+1),0,none⟩) (by first|(simp;done)|(simp;omega))).trans c10;have s11:=(bel.cell (p:=⟨(w.heap.size+1),1,none⟩) (by first|(simp;done)|(simp;omega))).trans c11;obtain⟨hc,hf⟩:=bcell bel;obtain⟨b9,ad9,n9,cap9,rfl⟩:=h9.form))
 have ni9:NoInt (((w.alloc (.cells #[.bool neg1,.slice ad1 n1 cap1] 31)).alloc (.cells #[.bool neg2,.slice ad2 n2 cap2] 31)).alloc (.cells #[.bool false,.slice none 0 0] 31)) (w.heap.size+2):=by
  have k0:=NoInt.box (w:=((w.alloc (.cells #[.bool neg1,.slice ad1 n1 cap1] 31)).alloc (.cells #[.bool neg2,.slice ad2 n2 cap2] 31))) (l:=[.bool false,.slice none 0 0]) (T:=31) (by simp[notInt_bool,notInt_slice])
  have e0:((w.alloc (.cells #[.bool neg1,.slice ad1 n1 cap1] 31)).alloc (.cells #[.bool neg2,.slice ad2 n2 cap2] 31)).heap.size =(w.heap.size+2):=by simp
  rw[e0] at k0
  exact k0
 obtain⟨bel9,kp⟩:=store2 hb0 (by omega) (by simp) ni9 bel (.bool b9) (.slice ad9 n9 cap9) (notInt_bool _)
 go_wp2
 exact bodyPost_ret (by simp[results,Tryz.results150,go_sem,hc]) rfl ⟨_,rfl,kp.wc h9,bel9⟩
end
section
def fr (a b:Int):Int:=if b=0 then 0 else a.fmod b
theorem f_pos {a b q r:Int} (h:a=b*q+r) (h0:0≤r) (h1:r<b):a.fdiv b=q∧a.fmod b=r:=by
 have hb:0<b:=by omega
 have:=(Int.ediv_emod_unique (a:=a) (q:=q) (r:=r) hb).2 ⟨by omega,h0,h1⟩
 rw[Int.fdiv_eq_ediv_of_nonneg _ (by omega),Int.fmod_eq_emod_of_nonneg _ (by omega)]
 exact this
theorem f_neg {a b q r:Int} (h:a=b*q+r) (h0:r≤0) (h1:b<r):a.fdiv b=q∧a.fmod b=r:=by
 have hq:(-a).fdiv (-b)=q∧(-a).fmod (-b)= -r:=f_pos (by rw[h,Int.neg_mul];omega) (by omega) (by omega)
 rw[Int.neg_fdiv_neg] at hq
 refine⟨hq.1,?_⟩
 have:=Int.fmod_def a b
 rw[hq.1] at this
 omega
theorem cast_dm (N M:Nat):(N:Int)=(M:Int)*((N/M:Nat):Int)+((N%M:Nat):Int):=by
 have:=Nat.div_add_mod N M
 exact_mod_cast this.symm
theorem fdm_zero' (z:Int):z.fdiv 0=0∧fr z 0=0:=⟨Int.fdiv_zero z,if_pos rfl⟩
theorem fdm_same (n:Bool) (N M:Nat):(sg n N).fdiv (sg n M)=sg false (N/M)∧fr (sg n N) (sg n M)=sg n (if M=0 then 0 else N%M):=by
 by_cases hm:M=0
 ·subst hm
  rw[sg_zero,if_pos rfl,sg_zero,Nat.div_zero,sg_zero];exact fdm_zero' _
 ·have h1:=cast_dm N M
  have h2:=Nat.mod_lt N (show 0<M by omega)
  rw[if_neg hm]
  generalize N/M=q at*
  generalize N%M=r at*
  unfold fr
  cases n with
  |false=>rw[sg_false,sg_false,sg_false,sg_false,if_neg (by omega)];exact f_pos h1 (by omega) (by omega)
  |true=>rw[sg_true,sg_true,sg_true,sg_false,if_neg (by omega)];exact f_neg (by rw[h1,Int.neg_mul];omega) (by omega) (by omega)
theorem fdm_zero (n:Bool) (N M:Nat) (h:(if M=0 then 0 else N%M)=0):(sg n N).fdiv (sg (!n) M)=sg true (N/M)∧fr (sg n N) (sg (!n) M)=sg (!n) 0:=by
 by_cases hm:M=0
 ·subst hm
  rw[sg_zero,Nat.div_zero,sg_zero];exact fdm_zero' _
 ·have h1:=cast_dm N M
  rw[if_neg hm] at h
  rw[h] at h1
  rw[sg_zero]
  generalize N/M=q at*
  unfold fr
  cases n with
  |false=>rw[show(!false)=true from rfl,sg_false,sg_true,sg_true,if_neg (by omega)];exact f_neg (by rw[h1,Int.neg_mul,Int.mul_neg];omega) (by omega) (by omega)
  |true=>rw[show(!true)=false from rfl,sg_false,sg_true,sg_true,if_neg (by omega)];exact f_pos (by rw[h1,Int.mul_neg];omega) (by omega) (by omega)
theorem fdm_rest (n:Bool) (N M:Nat) (h:¬(if M=0 then 0 else N%M)=0):(sg n N).fdiv (sg (!n) M)=sg true (N/M+1)∧fr (sg n N) (sg (!n) M)=sg (!n) (M-(if M=0 then 0 else N%M)):=by
 by_cases hm:M=0
 ·subst hm
  exact absurd (if_pos rfl) h
 ·have h1:=cast_dm N M
  have h2:=Nat.mod_lt N (show 0<M by omega)
  rw[if_neg hm] at h ⊢
  generalize N/M=q at*
  generalize N%M=r at*
  unfold fr
  cases n with
  |false=>rw[show(!false)=true from rfl,sg_false,sg_true,sg_true,sg_true,if_neg (by omega)];exact f_neg (by rw[h1,Int.neg_mul,Int.mul_neg];push_cast;rw[Int.mul_add];omega) (by omega) (by omega)
  |true=>rw[show(!true)=false from rfl,sg_false,sg_true,sg_true,sg_false,if_neg (by omega)];exact f_pos (by rw[h1,Int.mul_neg];push_cast;rw[Int.mul_add];omega) (by omega) (by omega)
end
section
def WdPost (w:World) (z1 z2:Int) (e:Ending) (w':World):Prop:=∃v1 v2,e= .returned (.tuple #[v1,v2])∧Wc w' v1 (z1.fdiv z2)∧Wc w' v2 (fr z1 z2)∧Below w.heap.size w w'
theorem NoInt.far {w:World} {g h:Nat} (h1:NoInt w g) (hne:h≠g) (i:Nat) (u:Value):NoInt (w.setCell ⟨h,i,none⟩ u) g:=by
 intro j k n
 rw[World.cell?_setCell_other _ _ _ _ (by intro e;apply hne;injection e)]
 exact h1 j k n
theorem store4 {w W0 w2:World} {g h:Nat} (hw:Below w.heap.size w W0) (hg:w.heap.size≤g) (hh:w.heap.size≤h) (hg2:g<W0.heap.size) (hh2:h<W0.heap.size) (hne:g≠h) (hn:NoInt W0 g) (hn':NoInt W0 h) (b3:Below W0.heap.size W0 w2) (u v x y:Value) (nu:notInt u) (nx:notInt x):
 Below w.heap.size w ((((w2.setCell ⟨g,0,none⟩ u).setCell ⟨g,1,none⟩ v).setCell ⟨h,0,none⟩ x).setCell ⟨h,1,none⟩ y)∧Keep w2 ((((w2.setCell ⟨g,0,none⟩ u).setCell ⟨g,1,none⟩ v).setCell ⟨h,0,none⟩ x).setCell ⟨h,1,none⟩ y):=by
 have a1:=hn.below hg2 b3
 have a2:=hn'.below hh2 b3
 have a3:=(a2.far hne 0 u).far hne 1 v
 have hb:Below w.heap.size w w2:=hw.trans (b3.mono hw.size)
 exact⟨(((hb.setCell (p:=⟨g,0,none⟩) hg u).setCell (p:=⟨g,1,none⟩) hg v).setCell (p:=⟨h,0,none⟩) hh x).setCell (p:=⟨h,1,none⟩) hh y,
  (((a1.keep 0 u).trans ((a1.setCell 0 nu).keep 1 v)).trans (a3.keep 0 x)).trans ((a3.setCell 0 nx).keep 1 y)⟩
theorem whDivMod_any (v1 v2:Value) (z1 z2:Int) (w:World) (h1:Wz w v1 z1) (h2:Wz w v2 z2) (a:Nat) (l1:Lim z1.natAbs a) (ha:a≤1000000):
 Calls Tryz.prog 165 #[v1,v2] w (WdPost w z1 z2):=by
 obtain⟨neg1,ad1,n1,cap1,N1,rfl,hN1,rfl⟩:=h1.shape
 obtain⟨neg2,ad2,n2,cap2,N2,rfl,hN2,rfl⟩:=h2.shape
 have hb0:=((((Below.refl w.heap.size w).alloc (Nat.le_refl _) (.cells #[.bool neg1,.slice ad1 n1 cap1] 31)).alloc (by simp) (.cells #[.bool neg2,.slice ad2 n2 cap2] 31)).alloc (by simp;omega) (.cells #[.bool false,.slice none 0 0] 31)).alloc (by simp;omega) (.cells #[.bool false,.slice none 0 0] 31)
 have hN1':=hN1.below hb0
 have hN2':=hN2.below hb0
 have c00:(w.alloc (.cells #[.bool neg1,.slice ad1 n1 cap1] 31)).cell? ⟨w.heap.size,0,none⟩=some (.bool neg1):=by simp
 replace c00:=(World.cell?_alloc_old (w.alloc (.cells #[.bool neg1,.slice ad1 n1 cap1] 31)) (.cells #[.bool neg2,.slice ad2 n2 cap2] 31) ⟨w.heap.size,0,none⟩ (by first|(simp;done)|(simp;omega))).trans c00
 replace c00:=(World.cell?_alloc_old ((w.alloc (.cells #[.bool neg1,.slice ad1 n1 cap1] 31)).alloc (.cells #[.bool neg2,.slice ad2 n2 cap2] 31)) (.cells #[.bool false,.slice none 0 0] 31) ⟨w.heap.size,0,none⟩ (by first|(simp;done)|(simp;omega))).trans c00
 replace c00:=(World.cell?_alloc_old (((w.alloc (.cells #[.bool neg1,.slice ad1 n1 cap1] 31)).alloc (.cells #[.bool neg2,.slice ad2 n2 cap2] 31)).alloc (.cells #[.bool false,.slice none 0 0] 31)) (.cells #[.bool false,.slice none 0 0] 31) ⟨w.heap.size,0,none⟩ (by first|(simp;done)|(simp;omega))).trans c00
 have c01:(w.alloc (.cells #[.bool neg1,.slice ad1 n1 cap1] 31)).cell? ⟨w.heap.size,1,none⟩=some (.slice ad1 n1 cap1):=by simp
 replace c01:=(World.cell?_alloc_old (w.alloc (.cells #[.bool neg1,.slice ad1 n1 cap1] 31)) (.cells #[.bool neg2,.slice ad2 n2 cap2] 31) ⟨w.heap.size,1,none⟩ (by first|(simp;done)|(simp;omega))).trans c01
 replace c01:=(World.cell?_alloc_old ((w.alloc (.cells #[.bool neg1,.slice ad1 n1 cap1] 31)).alloc (.cells #[.bool neg2,.slice ad2 n2 cap2] 31)) (.cells #[.bool false,.slice none 0 0] 31) ⟨w.heap.size,1,none⟩ (by first|(simp;done)|(simp;omega))).trans c01
 replace c01:=(World.cell?_alloc_old (((w.alloc (.cells #[.bool neg1,.slice ad1 n1 cap1] 31)).alloc (.cells #[.bool neg2,.slice ad2 n2 cap2] 31)).alloc (.cells #[.bool false,.slice none 0 0] 31)) (.cells #[.bool false,.slice none 0 0] 31) ⟨w.heap.size,1,none⟩ (by first|(simp;done)|(simp;omega))).trans c01
 have c10:((w.alloc (.cells #[.bool neg1,.slice ad1 n1 cap1] 31)).alloc (.cells #[.bool neg2,.slice ad2 n2 cap2] 31)).cell? ⟨(w.heap.size+1),0,none⟩=some (.bool neg2):=by simp
 replace c10:=(World.cell?_alloc_old ((w.alloc (.cells #[.bool neg1,.slice ad1 n1 cap1] 31)).alloc (.cells #[.bool neg2,.slice ad2 n2 cap2] 31)) (.cells #[.bool false,.slice none 0 0] 31) ⟨(w.heap.size+1),0,none⟩ (by first|(simp;done)|(simp;omega))).trans c10
 replace c10:=(World.cell?_alloc_old (((w.alloc (.cells #[.bool neg1,.slice ad1 n1 cap1] 31)).alloc (.cells #[.bool neg2,.slice ad2 n2 cap2] 31)).alloc (.cells #[.bool false,.slice none 0 0] 31)) (.cells #[.bool false,.slice none 0 0] 31) ⟨(w.heap.size+1),0,none⟩ (by first|(simp;done)|(simp;omega))).trans c10
 have c11:((w.alloc (.cells #[.bool neg1,.slice ad1 n1 cap1] 31)).alloc (.cells #[.bool neg2,.slice ad2 n2 cap2] 31)).cell? ⟨(w.heap.size+1),1,none⟩=some (.slice ad2 n2 cap2):=by simp
 replace c11:=(World.cell?_alloc_old ((w.alloc (.cells #[.bool neg1,.slice ad1 n1 cap1] 31)).alloc (.cells #[.bool neg2,.slice ad2 n2 cap2] 31)) (.cells #[.bool false,.slice none 0 0] 31) ⟨(w.heap.size+1),1,none⟩ (by first|(simp;done)|(simp;omega))).trans c11
 replace c11:=(World.cell?_alloc_old (((w.alloc (.cells #[.bool neg1,.slice ad1 n1 cap1] 31)).alloc (.cells #[.bool neg2,.slice ad2 n2 cap2] 31)).alloc (.cells #[.bool false,.slice none 0 0] 31)) (.cells #[.bool false,.slice none 0 0] 31) ⟨(w.heap.size+1),1,none⟩ (by first|(simp;done)|(simp;omega))).trans c11
 have hne1:w.heap.size+1+1≠w.heap.size:=by omega
 have hne2:w.heap.size+1+1+1≠w.heap.size:=by omega
 have hne3:w.heap.size+1+1+1≠w.heap.size+1:=by omega
 have ni8:NoInt ((((w.alloc (.cells #[.bool neg1,.slice ad1 n1 cap1] 31)).alloc (.cells #[.bool neg2,.slice ad2 n2 cap2] 31)).alloc (.cells #[.bool false,.slice none 0 0] 31)).alloc (.cells #[.bool false,.slice none 0 0] 31)) (w.heap.size+2):=by
  have k0:=NoInt.box (w:=((w.alloc (.cells #[.bool neg1,.slice ad1 n1 cap1] 31)).alloc (.cells #[.bool neg2,.slice ad2 n2 cap2] 31))) (l:=[.bool false,.slice none 0 0]) (T:=31) (by simp[notInt_bool,notInt_slice])
  have e0:((w.alloc (.cells #[.bool neg1,.slice ad1 n1 cap1] 31)).alloc (.cells #[.bool neg2,.slice ad2 n2 cap2] 31)).heap.size =(w.heap.size+2):=by simp
  rw[e0] at k0
  replace k0:=k0.below (by simp) ((Below.refl _ _).alloc (Nat.le_refl _) (.cells #[.bool false,.slice none 0 0] 31))
  exact k0
 have ni9:NoInt ((((w.alloc (.cells #[.bool neg1,.slice ad1 n1 cap1] 31)).alloc (.cells #[.bool neg2,.slice ad2 n2 cap2] 31)).alloc (.cells #[.bool false,.slice none 0 0] 31)).alloc (.cells #[.bool false,.slice none 0 0] 31)) (w.heap.size+3):=by
  have k0:=NoInt.box (w:=(((w.alloc (.cells #[.bool neg1,.slice ad1 n1 cap1] 31)).alloc (.cells #[.bool neg2,.slice ad2 n2 cap2] 31)).alloc (.cells #[.bool false,.slice none 0 0] 31))) (l:=[.bool false,.slice none 0 0]) (T:=31) (by simp[notInt_bool,notInt_slice])
  have e0:(((w.alloc (.cells #[.bool neg1,.slice ad1 n1 cap1] 31)).alloc (.cells #[.bool neg2,.slice ad2 n2 cap2] 31)).alloc (.cells #[.bool false,.slice none 0 0] 31)).heap.size =(w.heap.size+3):=by simp
  rw[e0] at k0
  exact k0
 have HM:=Lib.hid (divMod_any _ _ N1 N2 _ hN1' hN2')
 obtain⟨R,hR⟩:∃R,R=(if N2=0 then 0 else N1%N2):=⟨_,rfl⟩
 by_cases e:neg1=neg2
 ·subst e
  obtain⟨f1,f2⟩:=fdm_same neg1 N1 N2
  rw[←hR] at f2
  have F1:=Lib.hid f1.symm;have F2:=Lib.hid f2.symm;have HR:=Lib.hid hR
  clear f1 f2 hR
  go_enter Tryz.func165,Tryz.ntmps165
  go_wp2_with fail
  refine(HM.out).mono ?_
  rintro e w1 ⟨q,r,rfl,dq,dr,bb⟩
  replace hN2':=hN2'.below bb
  have bel:=bb
  clear bb
  obtain⟨hc,hf⟩:=bcell bel
  rw[←HR.out] at dr
  clear HM HR hN1'
  have s00:=(bel.cell (p:=⟨w.heap.size,0,none⟩) (by first|(simp;done)|(simp;omega))).trans c00
  have s01:=(bel.cell (p:=⟨w.heap.size,1,none⟩) (by first|(simp;done)|(simp;omega))).trans c01
  have s10:=(bel.cell (p:=⟨(w.heap.size+1),0,none⟩) (by first|(simp;done)|(simp;omega))).trans c10
  have s11:=(bel.cell (p:=⟨(w.heap.size+1),1,none⟩) (by first|(simp;done)|(simp;omega))).trans c11
  have DQ:=Lib.hid dq;have DR:=Lib.hid dr
  clear dq dr hN2'
  go_wp2_with fail
  go_region_held3 (fun w'=>w'.cell? ⟨w.heap.size,0,none⟩=some (.bool neg1)∧w'.cell? ⟨w.heap.size,1,none⟩=some (.slice ad1 n1 cap1)∧w'.cell? ⟨(w.heap.size+1),0,none⟩=some (.bool neg1)∧w'.cell? ⟨(w.heap.size+1),1,none⟩=some (.slice ad2 n2 cap2)) (first|exact⟨s00,s01,s10,s11⟩|go_keep)
   (first
   |(go_at_call 154;have hd:=DQ.out;refine(signed_any _ _ _ _ (hd.below (Below.refl _ _).drew)).mono ?_;rintro e wq ⟨v8,rfl,h8,b2⟩;clear hd DQ;rw[F1.out] at h8;replace bel:=below_to bel ((Below.refl _ _).drew.trans b2);clear s00 s01 s10 s11;have s00:=(bel.cell (p:=⟨w.heap.size,0,none⟩) (by first|(simp;done)|(simp;omega))).trans c00;have s01:=(bel.cell (p:=⟨w.heap.size,1,none⟩) (by first|(simp;done)|(simp;omega))).trans c01;have s10:=(bel.cell (p:=⟨(w.heap.size+1),0,none⟩) (by first|(simp;done)|(simp;omega))).trans c10;have s11:=(bel.cell (p:=⟨(w.heap.size+1),1,none⟩) (by first|(simp;done)|(simp;omega))).trans c11;have DR2:=Lib.hid (DR.out.below ((Below.refl _ _).drew.trans b2));clear DR;obtain⟨hc8,hf8⟩:=bcell bel;obtain⟨b8,ad8,n8,cap8,rfl⟩:=h8.form)
   |(go_at_call 154;have hd:=DR2.out;refine(signed_any _ _ _ _ hd).mono ?_;rintro e wr ⟨v9,rfl,h9,b2⟩;clear hd DR2;rw[F2.out] at h9;replace bel:=below_to bel b2;replace h8:=h8.below b2;clear s00 s01 s10 s11 hc8 hf8;have s00:=(bel.cell (p:=⟨w.heap.size,0,none⟩) (by first|(simp;done)|(simp;omega))).trans c00;have s01:=(bel.cell (p:=⟨w.heap.size,1,none⟩) (by first|(simp;done)|(simp;omega))).trans c01;have s10:=(bel.cell (p:=⟨(w.heap.size+1),0,none⟩) (by first|(simp;done)|(simp;omega))).trans c10;have s11:=(bel.cell (p:=⟨(w.heap.size+1),1,none⟩) (by first|(simp;done)|(simp;omega))).trans c11;obtain⟨hc,hf⟩:=bcell bel;obtain⟨b9,ad9,n9,cap9,rfl⟩:=h9.form))
  obtain⟨bel9,kp⟩:=store4 hb0 (by omega) (by omega) (by simp) (by simp) (by omega) ni8 ni9 bel (.bool b8) (.slice ad8 n8 cap8) (.bool b9) (.slice ad9 n9 cap9) (notInt_bool _) (notInt_bool _)
  go_wp2
  exact bodyPost_ret (by simp[results,Tryz.results165,go_sem,hc]) rfl ⟨_,_,rfl,kp.wc h8,kp.wc h9,bel9⟩
 ·obtain rfl:neg2=!neg1:=by cases neg1 <;> cases neg2 <;> simp_all
  have hne:(neg1 == !neg1)=false:=by cases neg1 <;> rfl
  clear e
  by_cases hz:R=0
  ·obtain⟨f1,f2⟩:=fdm_zero neg1 N1 N2 (by rw[←hR];exact hz)
   have F1:=Lib.hid f1.symm;have F2:=Lib.hid f2.symm;have HR:=Lib.hid (hR.symm.trans hz)
   clear f1 f2 hR hz
   go_enter Tryz.func165,Tryz.ntmps165
   go_wp2_with fail
   refine(HM.out).mono ?_
   rintro e w1 ⟨q,r,rfl,dq,dr,bb⟩
   replace hN2':=hN2'.below bb
   have bel:=bb
   clear bb
   obtain⟨hc,hf⟩:=bcell bel
   rw[HR.out] at dr
   clear HM HR hN1'
   have hnil:∃ad cap,r= .slice ad 0 cap:=by
    obtain⟨ad,cap,k1,_⟩:=dr
    rw[dg_zero] at k1
    exact⟨ad,cap,k1⟩
   obtain⟨ad7,cap7,rfl⟩:=hnil
   have s00:=(bel.cell (p:=⟨w.heap.size,0,none⟩) (by first|(simp;done)|(simp;omega))).trans c00
   have s01:=(bel.cell (p:=⟨w.heap.size,1,none⟩) (by first|(simp;done)|(simp;omega))).trans c01
   have s10:=(bel.cell (p:=⟨(w.heap.size+1),0,none⟩) (by first|(simp;done)|(simp;omega))).trans c10
   have s11:=(bel.cell (p:=⟨(w.heap.size+1),1,none⟩) (by first|(simp;done)|(simp;omega))).trans c11
   have DQ:=Lib.hid dq;have DR:=Lib.hid dr
   clear dq dr hN2'
   go_wp2_with fail
   go_region_held3 (fun w'=>w'.cell? ⟨w.heap.size,0,none⟩=some (.bool neg1)∧w'.cell? ⟨w.heap.size,1,none⟩=some (.slice ad1 n1 cap1)∧w'.cell? ⟨(w.heap.size+1),0,none⟩=some (.bool (!neg1))∧w'.cell? ⟨(w.heap.size+1),1,none⟩=some (.slice ad2 n2 cap2)) (first|exact⟨s00,s01,s10,s11⟩|go_keep)
    (first
    |(go_at_call 154;have hd:=DQ.out;refine(signed_any _ _ _ _ (hd.below (Below.refl _ _).drew)).mono ?_;rintro e wq ⟨v8,rfl,h8,b2⟩;clear hd DQ;rw[F1.out] at h8;replace bel:=below_to bel ((Below.refl _ _).drew.trans b2);clear s00 s01 s10 s11;have s00:=(bel.cell (p:=⟨w.heap.size,0,none⟩) (by first|(simp;done)|(simp;omega))).trans c00;have s01:=(bel.cell (p:=⟨w.heap.size,1,none⟩) (by first|(simp;done)|(simp;omega))).trans c01;have s10:=(bel.cell (p:=⟨(w.heap.size+1),0,none⟩) (by first|(simp;done)|(simp;omega))).trans c10;have s11:=(bel.cell (p:=⟨(w.heap.size+1),1,none⟩) (by first|(simp;done)|(simp;omega))).trans c11;have DR2:=Lib.hid (DR.out.below ((Below.refl _ _).drew.trans b2));clear DR;obtain⟨hc8,hf8⟩:=bcell bel;obtain⟨b8,ad8,n8,cap8,rfl⟩:=h8.form)
    |(go_at_call 154;have hd:=DR2.out;refine(signed_any _ _ _ _ hd).mono ?_;rintro e wr ⟨v9,rfl,h9,b2⟩;clear hd DR2;rw[F2.out] at h9;replace bel:=below_to bel b2;replace h8:=h8.below b2;clear s00 s01 s10 s11 hc8 hf8;have s00:=(bel.cell (p:=⟨w.heap.size,0,none⟩) (by first|(simp;done)|(simp;omega))).trans c00;have s01:=(bel.cell (p:=⟨w.heap.size,1,none⟩) (by first|(simp;done)|(simp;omega))).trans c01;have s10:=(bel.cell (p:=⟨(w.heap.size+1),0,none⟩) (by first|(simp;done)|(simp;omega))).trans c10;have s11:=(bel.cell (p:=⟨(w.heap.size+1),1,none⟩) (by first|(simp;done)|(simp;omega))).trans c11;obtain⟨hc,hf⟩:=bcell bel;obtain⟨b9,ad9,n9,cap9,rfl⟩:=h9.form))
   obtain⟨bel9,kp⟩:=store4 hb0 (by omega) (by omega) (by simp) (by simp) (by omega) ni8 ni9 bel (.bool b8) (.slice ad8 n8 cap8) (.bool b9) (.slice ad9 n9 cap9) (notInt_bool _) (notInt_bool _)
   go_wp2
   exact bodyPost_ret (by simp[results,Tryz.results165,go_sem,hc]) rfl ⟨_,_,rfl,kp.wc h8,kp.wc h9,bel9⟩
  ·obtain⟨f1,f2⟩:=fdm_rest neg1 N1 N2 (by rw[←hR];exact hz)
   rw[←hR] at f2
   have hRN:R≤N2:=by
    rw[hR];split
    ·omega
    ·exact Nat.le_of_lt (Nat.mod_lt _ (by omega))
   have lQ:=Lib.hid ((((l1.le (by rw[sg_natAbs];exact Nat.div_le_self N1 N2)).add (show Lim 1 2 from Lim.of64 (by decide)) 1000001 (by omega) (by omega)).dl 1099511627776 (by omega)):dl B32 (N1/N2+1)≤1099511627776)
   have HP:=Lib.hid (show 0<R by omega)
   have F1:=Lib.hid f1.symm;have F2:=Lib.hid f2.symm;have HR:=Lib.hid hR
   clear f1 f2 hR hz
   go_enter Tryz.func165,Tryz.ntmps165
   go_wp2_with fail
   refine(HM.out).mono ?_
   rintro e w1 ⟨q,r,rfl,dq,dr,bb⟩
   replace hN2':=hN2'.below bb
   have bel:=bb
   clear bb
   obtain⟨hc,hf⟩:=bcell bel
   rw[←HR.out] at dr
   clear HM HR hN1'
   have hlen:∃ad n cap,r= .slice ad n cap∧0<n:=by
    obtain⟨ad,cap,k1,_⟩:=dr
    exact⟨ad,_,cap,k1,dl_pos B32_two HP.out⟩
   obtain⟨ad7,n7,cap7,rfl,hp7⟩:=hlen
   go_wp2_with fail
   refine(of_any 1 _ (by decide)).mono ?_
   rintro e w2 ⟨o,rfl,do1,bb⟩
   replace hN2':=hN2'.below bb
   replace dq:=dq.below bb
   replace dr:=dr.below bb
   replace bel:=below_to bel bb
   clear bb
   clear hc hf
   obtain⟨hc,hf⟩:=bcell bel
   go_wp2_with fail
   refine(add_any q o (N1/N2) 1 _ dq.nt do1.nt lQ.out).mono ?_
   rintro e w3 ⟨q2,rfl,dq2,bb⟩
   replace hN2':=hN2'.below bb
   replace dq:=dq.below bb
   replace dr:=dr.below bb
   replace do1:=do1.below bb
   replace bel:=below_to bel bb
   clear bb
   clear hc hf
   obtain⟨hc,hf⟩:=bcell bel
   go_wp2_with fail
   refine(sub_ge _ _ N2 R _ hN2' dr.nt hRN).mono ?_
   rintro e w4 ⟨r2,rfl,dr2,bb⟩
   replace hN2':=hN2'.below bb
   replace dq:=dq.below bb
   replace dr:=dr.below bb
   replace do1:=do1.below bb
   replace dq2:=dq2.below bb
   replace bel:=below_to bel bb
   clear bb
   clear hc hf
   obtain⟨hc,hf⟩:=bcell bel
   clear dq dr do1
   have s00:=(bel.cell (p:=⟨w.heap.size,0,none⟩) (by first|(simp;done)|(simp;omega))).trans c00
   have s01:=(bel.cell (p:=⟨w.heap.size,1,none⟩) (by first|(simp;done)|(simp;omega))).trans c01
   have s10:=(bel.cell (p:=⟨(w.heap.size+1),0,none⟩) (by first|(simp;done)|(simp;omega))).trans c10
   have s11:=(bel.cell (p:=⟨(w.heap.size+1),1,none⟩) (by first|(simp;done)|(simp;omega))).trans c11
   have DQ:=Lib.hid dq2;have DR:=Lib.hid dr2
   clear dq2 dr2 hN2'
   go_wp2_with fail
   go_region_held3 (fun w'=>w'.cell? ⟨w.heap.size,0,none⟩=some (.bool neg1)∧w'.cell? ⟨w.heap.size,1,none⟩=some (.slice ad1 n1 cap1)∧w'.cell? ⟨(w.heap.size+1),0,none⟩=some (.bool (!neg1))∧w'.cell? ⟨(w.heap.size+1),1,none⟩=some (.slice ad2 n2 cap2)) (first|exact⟨s00,s01,s10,s11⟩|go_keep)
    (first
    |(go_at_call 154;have hd:=DQ.out;refine(signed_any _ _ _ _ (hd.below (Below.refl _ _).drew)).mono ?_;rintro e wq ⟨v8,rfl,h8,b2⟩;clear hd DQ;rw[F1.out] at h8;replace bel:=below_to bel ((Below.refl _ _).drew.trans b2);clear s00 s01 s10 s11;have s00:=(bel.cell (p:=⟨w.heap.size,0,none⟩) (by first|(simp;done)|(simp;omega))).trans c00;have s01:=(bel.cell (p:=⟨w.heap.size,1,none⟩) (by first|(simp;done)|(simp;omega))).trans c01;have s10:=(bel.cell (p:=⟨(w.heap.size+1),0,none⟩) (by first|(simp;done)|(simp;omega))).trans c10;have s11:=(bel.cell (p:=⟨(w.heap.size+1),1,none⟩) (by first|(simp;done)|(simp;omega))).trans c11;have DR2:=Lib.hid (DR.out.below ((Below.refl _ _).drew.trans b2));clear DR;obtain⟨hc8,hf8⟩:=bcell bel;obtain⟨b8,ad8,n8,cap8,rfl⟩:=h8.form)
    |(go_at_call 154;have hd:=DR2.out;refine(signed_any _ _ _ _ hd).mono ?_;rintro e wr ⟨v9,rfl,h9,b2⟩;clear hd DR2;rw[F2.out] at h9;replace bel:=below_to bel b2;replace h8:=h8.below b2;clear s00 s01 s10 s11 hc8 hf8;have s00:=(bel.cell (p:=⟨w.heap.size,0,none⟩) (by first|(simp;done)|(simp;omega))).trans c00;have s01:=(bel.cell (p:=⟨w.heap.size,1,none⟩) (by first|(simp;done)|(simp;omega))).trans c01;have s10:=(bel.cell (p:=⟨(w.heap.size+1),0,none⟩) (by first|(simp;done)|(simp;omega))).trans c10;have s11:=(bel.cell (p:=⟨(w.heap.size+1),1,none⟩) (by first|(simp;done)|(simp;omega))).trans c11;obtain⟨hc,hf⟩:=bcell bel;obtain⟨b9,ad9,n9,cap9,rfl⟩:=h9.form))
   obtain⟨bel9,kp⟩:=store4 hb0 (by omega) (by omega) (by simp) (by simp) (by omega) ni8 ni9 bel (.bool b8) (.slice ad8 n8 cap8) (.bool b9) (.slice ad9 n9 cap9) (notInt_bool _) (notInt_bool _)
   go_wp2
   exact bodyPost_ret (by simp[results,Tryz.results165,go_sem,hc]) rfl ⟨_,_,rfl,kp.wc h8,kp.wc h9,bel9⟩
end
section
def ci (x y:Int):Int:=if x<y then -1 else if y<x then 1 else 0
theorem ci_lt {x y:Int} (h:x<y):ci x y= -1:=by unfold ci;rw[if_pos h]
theorem ci_gt {x y:Int} (h:y<x):ci x y=1:=by unfold ci;rw[if_neg (by omega),if_pos h]
theorem ci_eq {x y:Int} (h:x=y):ci x y=0:=by unfold ci;rw[if_neg (by omega),if_neg (by omega)]
theorem nanI_any (x:Int) (w:World):Calls Tryz.prog 182 #[.int .i64 x] w fun e w'=>e= .returned (.bool false)∧w'=w:=by
 go_enter Tryz.func182,Tryz.ntmps182
 go_wp2
 go_ret
 exact⟨rfl,rfl⟩
theorem cmpI_any (x y:Int) (w:World):Calls Tryz.prog 136 #[.int .i64 x,.int .i64 y] w fun e w'=>e= .returned (.int .i64 (ci x y))∧w'=w:=by
 rcases Int.lt_trichotomy x y with h|h|h
 ·rw[ci_lt h]
  go_enter Tryz.func136,Tryz.ntmps136
  go_wp2_with (go_at_call 182;refine(nanI_any _ _).mono ?_;rintro e w2 ⟨rfl,hw⟩;have hw:=hw.symm;subst hw)
  go_ret
  exact⟨rfl,rfl⟩
 ·rw[ci_eq h]
  subst h
  go_enter Tryz.func136,Tryz.ntmps136
  go_wp2_with (go_at_call 182;refine(nanI_any _ _).mono ?_;rintro e w2 ⟨rfl,hw⟩;have hw:=hw.symm;subst hw)
  go_ret
  exact⟨rfl,rfl⟩
 ·rw[ci_gt h]
  have h':¬x<y:=by omega
  go_enter Tryz.func136,Tryz.ntmps136
  go_wp2_with (go_at_call 182;refine(nanI_any _ _).mono ?_;rintro e w2 ⟨rfl,hw⟩;have hw:=hw.symm;subst hw)
  go_ret
  exact⟨rfl,rfl⟩
theorem sz_cases (z:Int):sz z= -1∨sz z=0∨sz z=1:=by unfold sz;split <;> (try split) <;> simp
theorem ci_signs {x y:Int} (h:¬sz x=sz y):ci (sz x) (sz y)=ci x y:=by
 unfold sz at*
 unfold ci
 split at h <;> split at h <;> (try split at h) <;> (try split at h) <;> simp_all <;> omega
theorem ci_mul (b c:Bool) {N M:Nat} (h:sz (sg b N)=sz (sg c M)):sz (sg b N)*c3 N M=ci (sg b N) (sg c M):=by
 unfold sz ci c3 sg at*
 cases b <;> cases c <;> simp at* <;> split at h <;> (try split at h) <;> (try split at h) <;> (try split at h) <;> (try split) <;> (try split) <;> (try split) <;> (try split) <;> omega
theorem whCmp_any (v1 v2:Value) (z1 z2:Int) (w:World) (h1:Wz w v1 z1) (h2:Wz w v2 z2):
 Calls Tryz.prog 95 #[v1,v2] w (IntPost w (ci z1 z2)):=by
 obtain⟨neg1,ad1,n1,cap1,N1,rfl,hN1,rfl⟩:=h1.shape
 obtain⟨neg2,ad2,n2,cap2,N2,rfl,hN2,rfl⟩:=h2.shape
 have hb0:=((Below.refl w.heap.size w).alloc (Nat.le_refl _) (.cells #[.bool neg1,.slice ad1 n1 cap1] 31)).alloc (by simp) (.cells #[.bool neg2,.slice ad2 n2 cap2] 31)
 have hw1':=h1.below hb0;have hw2':=h2.below hb0
 have hN1':=hN1.below hb0;have hN2':=hN2.below hb0
 by_cases hs:sz (sg neg1 N1)=sz (sg neg2 N2)
 ·have hfin:=Lib.hid (ci_mul neg1 neg2 hs)
  have hcr:=c3_range N1 N2
  rw[hs] at hfin
  have HS:=Lib.hid hs
  obtain⟨c,hcc⟩:∃c,c=c3 N1 N2:=⟨_,rfl⟩
  rw[←hcc] at hfin hcr
  have HC:=Lib.hid hcc
  clear hcc hs
  have h3:=sz_cases (sg neg2 N2)
  obtain⟨s,hss⟩:∃s,s=sz (sg neg2 N2):=⟨_,rfl⟩
  rw[←hss] at h3 hfin
  have HSS:=Lib.hid hss
  clear hss
  obtain⟨hcr1,hcr2⟩:=hcr
  rw[←hfin.out]
  clear hfin
  rcases h3 with rfl|rfl|rfl
  all_goals
   go_enter Tryz.func95,Tryz.ntmps95
   go_wp2_with fail
   have kc:=whSign_any _ (sg neg1 N1) _ hw1'
   rw[HS.out,←HSS.out] at kc
   refine kc.mono ?_
   rintro e w1 ⟨rfl,bb⟩
   clear kc
   replace hw1':=hw1'.below bb
   replace hw2':=hw2'.below bb
   replace hN1':=hN1'.below bb
   replace hN2':=hN2'.below bb
   have bel:=bb
   clear bb
   obtain⟨hc,hf⟩:=bcell bel
   go_wp2_with fail
   have kc:=whSign_any _ (sg neg2 N2) _ hw2'
   rw[←HSS.out] at kc
   refine kc.mono ?_
   rintro e w2 ⟨rfl,bb⟩
   clear kc
   replace hw1':=hw1'.below bb
   replace hw2':=hw2'.below bb
   replace hN1':=hN1'.below bb
   replace hN2':=hN2'.below bb
   replace bel:=below_to bel bb
   clear bb
   clear hc hf
   obtain⟨hc,hf⟩:=bcell bel
   go_wp2_with fail
   have kc:=cmp_any _ _ N1 N2 _ hN1' hN2'
   rw[←HC.out] at kc
   refine kc.mono ?_
   intro e w3 hh
   obtain⟨rfl,bb,hsz⟩:=quiet_below hh
   clear hh hsz kc
   replace hw1':=hw1'.below bb
   replace hw2':=hw2'.below bb
   replace hN1':=hN1'.below bb
   replace hN2':=hN2'.below bb
   replace bel:=below_to bel bb
   clear bb
   clear hc hf
   obtain⟨hc,hf⟩:=bcell bel
   go_wp2
   go_ret
   exact⟨by first|rfl|exact ret_int (by omega)|(refine ret_int ?_;unfold wrap64;omega),hb0.trans (bel.mono hb0.size)⟩
 ·have hfin:=Lib.hid (ci_signs hs)
  rw[←hfin.out]
  clear hfin
  obtain⟨s1,hs1⟩:∃s,s=sz (sg neg1 N1):=⟨_,rfl⟩
  obtain⟨s2,hs2⟩:∃s,s=sz (sg neg2 N2):=⟨_,rfl⟩
  rw[←hs1,←hs2] at hs ⊢
  have HS1:=Lib.hid hs1;have HS2:=Lib.hid hs2
  clear hs1 hs2
  have hb1:(s1 == s2)=false:=by simpa using hs
  clear hs
  go_enter Tryz.func95,Tryz.ntmps95
  go_wp2_with fail
  have kc:=whSign_any _ (sg neg1 N1) _ hw1'
  rw[←HS1.out] at kc
  refine kc.mono ?_
  rintro e w1 ⟨rfl,bb⟩
  clear kc
  replace hw1':=hw1'.below bb
  replace hw2':=hw2'.below bb
  replace hN1':=hN1'.below bb
  replace hN2':=hN2'.below bb
  have bel:=bb
  clear bb
  obtain⟨hc,hf⟩:=bcell bel
  go_wp2_with fail
  have kc:=whSign_any _ (sg neg2 N2) _ hw2'
  rw[←HS2.out] at kc
  refine kc.mono ?_
  rintro e w2 ⟨rfl,bb⟩
  clear kc
  replace hw1':=hw1'.below bb
  replace hw2':=hw2'.below bb
  replace hN1':=hN1'.below bb
  replace hN2':=hN2'.below bb
  replace bel:=below_to bel bb
  clear bb
  clear hc hf
  obtain⟨hc,hf⟩:=bcell bel
  go_wp2_with fail
  have kc:=whSign_any _ (sg neg2 N2) _ hw2'
  rw[←HS2.out] at kc
  refine kc.mono ?_
  rintro e w3 ⟨rfl,bb⟩
  clear kc
  replace hw1':=hw1'.below bb
  replace hw2':=hw2'.below bb
  replace hN1':=hN1'.below bb
  replace hN2':=hN2'.below bb
  replace bel:=below_to bel bb
  clear bb
  clear hc hf
  obtain⟨hc,hf⟩:=bcell bel
  go_wp2_with fail
  refine(cmpI_any s1 s2 _).mono ?_
  rintro e wx ⟨rfl,hw⟩
  have hw:=hw.symm;subst hw
  go_wp2
  go_ret
  exact⟨by first|rfl|exact ret_int (by omega)|(refine ret_int ?_;unfold wrap64;omega),hb0.trans (bel.mono hb0.size)⟩
end
section
def TwoPost (w:World) (u:Value) (b:Bool) (e:Ending) (w':World):Prop:=e= .returned (.tuple #[u,.bool b])∧Below w.heap.size w w'
theorem uint_lo (v:Value) (N:Nat) (w:World) (h:Nt w v N) (hl:N<18446744073709551616):Calls Tryz.prog 144 #[v] w fun e w'=>e= .returned (.tuple #[.int .u64 N,.bool true])∧w'=w:=by
 have hd:dl 2 N≤64:=dl_le (by omega) (Nat.lt_of_lt_of_le hl (by decide))
 have:=uint_any v N w h
 unfold UintPost at this
 rw[if_pos hd,show decide (dl 2 N≤64)=true from by simpa using hd] at this
 exact this
theorem uint_hi (v:Value) (N:Nat) (w:World) (h:Nt w v N) (hl:18446744073709551616≤N):Calls Tryz.prog 144 #[v] w fun e w'=>e= .returned (.tuple #[.int .u64 (0:Nat),.bool false])∧w'=w:=by
 have hd:¬dl 2 N≤64:=by
  intro hh
  have h1:=lt_dl (b:=2) (by omega) N
  have h2:(2:Nat)^dl 2 N≤2^64:=Nat.pow_le_pow_right (by omega) hh
  have h3:(2:Nat)^64=18446744073709551616:=by decide
  omega
 have:=uint_any v N w h
 unfold UintPost at this
 rw[if_neg hd,show decide (dl 2 N≤64)=false from by simpa using hd] at this
 exact this
theorem small_f_yes (ad:Option Addr) (n cap N:Nat) (w:World) (hN:Nt w (.slice ad n cap) N) (hc:N≤9223372036854775807):
 Calls Tryz.prog 79 #[.agg #[.bool false,.slice ad n cap]] w (TwoPost w (.int .i64 (N:Nat)) true):=by
 have hb0:=(Below.refl w.heap.size w).alloc (Nat.le_refl _) (.cells #[.bool false,.slice ad n cap] 31)
 have hN':=hN.below hb0
 have KU:=Lib.hid (uint_lo _ N _ hN' (by omega))
 go_enter Tryz.func79,Tryz.ntmps79
 go_wp2_with fail
 refine KU.out.mono ?_
 rintro e wx ⟨rfl,hw⟩
 have hw:=hw.symm;subst hw
 clear KU
 go_wp2
 go_ret2
 exact⟨rfl,hb0⟩
theorem small_f_mid (ad:Option Addr) (n cap N:Nat) (w:World) (hN:Nt w (.slice ad n cap) N) (hc:9223372036854775807<N∧N<18446744073709551616):
 Calls Tryz.prog 79 #[.agg #[.bool false,.slice ad n cap]] w (TwoPost w (.int .i64 0) false):=by
 have hb0:=(Below.refl w.heap.size w).alloc (Nat.le_refl _) (.cells #[.bool false,.slice ad n cap] 31)
 have hN':=hN.below hb0
 have KU:=Lib.hid (uint_lo _ N _ hN' (by omega))
 go_enter Tryz.func79,Tryz.ntmps79
 go_wp2_with fail
 refine KU.out.mono ?_
 rintro e wx ⟨rfl,hw⟩
 have hw:=hw.symm;subst hw
 clear KU
 go_wp2
 go_ret2
 exact⟨rfl,hb0⟩
theorem small_f_no (ad:Option Addr) (n cap N:Nat) (w:World) (hN:Nt w (.slice ad n cap) N) (hc:18446744073709551616≤N):
 Calls Tryz.prog 79 #[.agg #[.bool false,.slice ad n cap]] w (TwoPost w (.int .i64 0) false):=by
 have hb0:=(Below.refl w.heap.size w).alloc (Nat.le_refl _) (.cells #[.bool false,.slice ad n cap] 31)
 have hN':=hN.below hb0
 have KU:=Lib.hid (uint_hi _ N _ hN' (by omega))
 clear hc
 go_enter Tryz.func79,Tryz.ntmps79
 go_wp2_with fail
 refine KU.out.mono ?_
 rintro e wx ⟨rfl,hw⟩
 have hw:=hw.symm;subst hw
 clear KU
 go_wp2
 go_ret2
 exact⟨rfl,hb0⟩
theorem small_t_yes (ad:Option Addr) (n cap N:Nat) (w:World) (hN:Nt w (.slice ad n cap) N) (hc:N≤9223372036854775808):
 Calls Tryz.prog 79 #[.agg #[.bool true,.slice ad n cap]] w (TwoPost w (.int .i64 (-(N:Int))) true):=by
 have hb0:=(Below.refl w.heap.size w).alloc (Nat.le_refl _) (.cells #[.bool true,.slice ad n cap] 31)
 have hN':=hN.below hb0
 have KU:=Lib.hid (uint_lo _ N _ hN' (by omega))
 have EW:=Lib.hid (show wrap64 (IntKind.u64.wrap (-(N:Int)))= -(N:Int) by unfold wrap64;rw[IntKind.wrap_u64];omega)
 go_enter Tryz.func79,Tryz.ntmps79
 go_wp2_with fail
 refine KU.out.mono ?_
 rintro e wx ⟨rfl,hw⟩
 have hw:=hw.symm;subst hw
 clear KU
 go_wp2
 go_ret2
 exact⟨by show Ending.returned (.tuple #[.int .i64 (wrap64 (IntKind.u64.wrap (-(N:Int)))),.bool true])=_;rw[EW.out],hb0⟩
theorem small_t_mid (ad:Option Addr) (n cap N:Nat) (w:World) (hN:Nt w (.slice ad n cap) N) (hc:9223372036854775808<N∧N<18446744073709551616):
 Calls Tryz.prog 79 #[.agg #[.bool true,.slice ad n cap]] w (TwoPost w (.int .i64 0) false):=by
 have hb0:=(Below.refl w.heap.size w).alloc (Nat.le_refl _) (.cells #[.bool true,.slice ad n cap] 31)
 have hN':=hN.below hb0
 have KU:=Lib.hid (uint_lo _ N _ hN' (by omega))
 go_enter Tryz.func79,Tryz.ntmps79
 go_wp2_with fail
 refine KU.out.mono ?_
 rintro e wx ⟨rfl,hw⟩
 have hw:=hw.symm;subst hw
 clear KU
 go_wp2
 go_ret2
 exact⟨rfl,hb0⟩
theorem small_t_no (ad:Option Addr) (n cap N:Nat) (w:World) (hN:Nt w (.slice ad n cap) N) (hc:18446744073709551616≤N):
 Calls Tryz.prog 79 #[.agg #[.bool true,.slice ad n cap]] w (TwoPost w (.int .i64 0) false):=by
 have hb0:=(Below.refl w.heap.size w).alloc (Nat.le_refl _) (.cells #[.bool true,.slice ad n cap] 31)
 have hN':=hN.below hb0
 have KU:=Lib.hid (uint_hi _ N _ hN' (by omega))
 clear hc
 go_enter Tryz.func79,Tryz.ntmps79
 go_wp2_with fail
 refine KU.out.mono ?_
 rintro e wx ⟨rfl,hw⟩
 have hw:=hw.symm;subst hw
 clear KU
 go_wp2
 go_ret2
 exact⟨rfl,hb0⟩
theorem whSmall_yes (v:Value) (z:Int) (w:World) (h:Wz w v z) (h0: -9223372036854775808≤z) (h1:z≤9223372036854775807):Calls Tryz.prog 79 #[v] w (TwoPost w (.int .i64 z) true):=by
 obtain⟨neg,ad,n,cap,N,rfl,hN,rfl⟩:=h.shape
 cases neg with
 |false=>rw[sg_false] at*;exact small_f_yes ad n cap N w hN (by omega)
 |true=>rw[sg_true] at*;exact small_t_yes ad n cap N w hN (by omega)
theorem whSmall_no (v:Value) (z:Int) (w:World) (h:Wz w v z) (hz:z< -9223372036854775808∨9223372036854775807<z):Calls Tryz.prog 79 #[v] w (TwoPost w (.int .i64 0) false):=by
 obtain⟨neg,ad,n,cap,N,rfl,hN,rfl⟩:=h.shape
 cases neg with
 |false=>
  rw[sg_false] at*
  by_cases hh:N<18446744073709551616
  ·exact small_f_mid ad n cap N w hN (by omega)
  ·exact small_f_no ad n cap N w hN (by omega)
 |true=>
  rw[sg_true] at*
  by_cases hh:N<18446744073709551616
  ·exact small_t_mid ad n cap N w hN (by omega)
  ·exact small_t_no ad n cap N w hN (by omega)
end
end
end Go.Proofs.YtnljadejcfgmaaaGreatDoor
