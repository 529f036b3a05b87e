import Derived.Test.YtnljadejcfgmaaaGreatDoorKC11
namespace Go.Proofs.YtnljadejcfgmaaaGreatDoor
open Go.RowKit
set_option maxRecDepth 100000
set_option linter.unusedVariables false
set_option maxHeartbeats 8000000
def Lim (N k:Nat):Prop:=N<B32^k
theorem Lim.add {N M a b:Nat} (h1:Lim N a) (h2:Lim M b) (c:Nat) (ha:a<c) (hb:b<c):Lim (N+M) c:=by
 have k1:N<B32^(c-1):=Nat.lt_of_lt_of_le h1 (Nat.pow_le_pow_right B32_pos (by omega))
 have k2:M<B32^(c-1):=Nat.lt_of_lt_of_le h2 (Nat.pow_le_pow_right B32_pos (by omega))
 have:=add_small k1 k2
 rwa[show c-1+1=c from by omega] at this
theorem Lim.mul {N M a b:Nat} (h1:Lim N a) (h2:Lim M b):Lim (N*M) (a+b):=by
 unfold Lim at*
 rw[Nat.pow_add]
 exact Nat.mul_lt_mul'' h1 h2
theorem Lim.le {N M a:Nat} (h:Lim M a) (hl:N≤M):Lim N a:=Nat.lt_of_le_of_lt hl h
theorem Lim.up {N a:Nat} (h:Lim N a) (b:Nat) (hl:a≤b):Lim N b:=Nat.lt_of_lt_of_le h (Nat.pow_le_pow_right B32_pos hl)
theorem Lim.dl {N a:Nat} (h:Lim N a) (c:Nat) (hc:a≤c):dl B32 N≤c:=Nat.le_trans (dl_le B32_two h) hc
theorem Lim.dh {N a:Nat} (h:Lim N a) (c:Nat) (hc:2*a≤c):Go.Proofs.YtnljadejcfgmaaaGreatDoor.dl 65536 N≤c:=by
 refine Nat.le_trans (dl_le (b:=65536) (by omega) (k:=2*a) ?_) hc
 rw[show(65536:Nat)^(2*a)=B32^a from by rw[Nat.pow_mul];rfl]
 exact h
theorem Lim.of64 {N:Nat} (h:N<18446744073709551616):Lim N 2:=Nat.lt_of_lt_of_le h (by decide)
theorem Nt.shape {w:World} {v:Value} {N:Nat} (h:Nt w v N):∃ad n cap,v= .slice ad n cap:=by
 obtain⟨xs,_,_,ad,cap,h1,_⟩:=h
 exact⟨ad,_,cap,h1⟩
theorem Keep.sq {w w':World} (h:Keep w w') {k:IntKind} {v:Value} {xs:List Nat} (s:Sq w k v xs):Sq w' k v xs:=by
 obtain⟨ad,cap,h1,h2,h3⟩:=s
 exact⟨ad,cap,h1,h _ _ _ h2,h3⟩
theorem Keep.dg {w w':World} (h:Keep w w') {k:IntKind} {b:Nat} {v:Value} {n:Nat} (s:Dg w k b v n):Dg w' k b v n:=h.sq s
section
section
def sg (neg:Bool) (N:Nat):Int:=if neg then -(N:Int) else(N:Int)
theorem sg_natAbs (neg:Bool) (N:Nat):(sg neg N).natAbs =N:=by unfold sg;split <;> omega
theorem sg_true (N:Nat):sg true N= -(N:Int):=rfl
theorem sg_false (N:Nat):sg false N=(N:Int):=rfl
theorem sg_zero (neg:Bool):sg neg 0=0:=by unfold sg;split <;> omega
theorem sg_neg (neg:Bool) {N:Nat} (h:0<N):decide (sg neg N<0)=neg:=by
 unfold sg;cases neg <;> simp <;> omega
theorem sg_self (z:Int):sg (decide (z<0)) z.natAbs=z:=by
 unfold sg
 by_cases h:z<0
 ·rw[if_pos (by simpa using h)];omega
 ·rw[if_neg (by simpa using h)];omega
def Wz (w:World) (v:Value) (z:Int):Prop:=∃neg a N,v= .agg #[.bool neg,a]∧Nt w a N∧z=sg neg N
def Wc (w:World) (v:Value) (z:Int):Prop:=∃a,v= .agg #[.bool (decide (z<0)),a]∧Dg w .u32 B32 a z.natAbs
theorem Wz.below {w w':World} {v:Value} {z:Int} (h:Wz w v z) (hb:Below w.heap.size w w'):Wz w' v z:=by
 obtain⟨neg,a,N,h1,h2,h3⟩:=h
 exact⟨neg,a,N,h1,h2.below hb,h3⟩
theorem Wc.below {w w':World} {v:Value} {z:Int} (h:Wc w v z) (hb:Below w.heap.size w w'):Wc w' v z:=by
 obtain⟨a,h1,h2⟩:=h
 exact⟨a,h1,h2.below hb⟩
theorem Wc.wz {w:World} {v:Value} {z:Int} (h:Wc w v z):Wz w v z:=by
 obtain⟨a,h1,h2⟩:=h
 exact⟨_,a,z.natAbs,h1,h2.nt,(sg_self z).symm⟩
theorem Keep.wc {w w':World} (k:Keep w w') {v:Value} {z:Int} (h:Wc w v z):Wc w' v z:=by
 obtain⟨a,h1,h2⟩:=h
 exact⟨a,h1,k.dg h2⟩
theorem Wz.shape {w:World} {v:Value} {z:Int} (h:Wz w v z):∃neg ad n cap N,v= .agg #[.bool neg,.slice ad n cap]∧Nt w (.slice ad n cap) N∧z=sg neg N:=by
 obtain⟨neg,a,N,rfl,h2,h3⟩:=h
 obtain⟨ad,n,cap,rfl⟩:=h2.shape
 exact⟨neg,ad,n,cap,N,rfl,h2,h3⟩
def WcPost (w:World) (z:Int) (e:Ending) (w':World):Prop:=∃v,e= .returned v∧Wc w' v z∧Below w.heap.size w w'
theorem Wc.zero (w:World):Wc w (.agg #[.bool false,.slice none 0 0]) 0:=
 ⟨_,rfl,Dg.zero _ _ _ _ (by unfold maxLen;omega) (fun _=>rfl)⟩
theorem Wc.sg {w:World} {neg:Bool} {v:Value} {N:Nat} (h:Dg w .u32 B32 v N) (hp:0<N):Wc w (.agg #[.bool neg,v]) (sg neg N):=
 ⟨v,by rw[sg_neg neg hp],by rw[sg_natAbs];exact h⟩
theorem trim_nt (v:Value) (N:Nat) (w:World) (h:Nt w v N):Calls Tryz.prog 131 #[v] w (DgPost w N):=by
 have hl:dl B32 N≤1099511627776:=by
  obtain⟨xs,ho,hv,_,_,_,_,_,_,hl,_⟩:=h
  have:=dl_vl_le B32_two ho
  rw[hv] at this
  omega
 refine(trim_any v N w h).mono ?_
 rintro e w' ⟨v',h1,h2,h3⟩
 exact⟨v',h1,h2.sq (by rw[length_dg];exact hl),h3⟩
theorem signed_any (neg:Bool) (v:Value) (N:Nat) (w:World) (h:Dg w .u32 B32 v N):
 Calls Tryz.prog 154 #[.bool neg,v] w (WcPost w (sg neg N)):=by
 have H:=Lib.hid h
 obtain⟨ad,cap,rfl,_,_,_,hl,_⟩:=h
 rw[length_dg] at hl ⊢
 by_cases h0:N=0
 ·subst h0
  rw[dl_zero]
  have SZ:=Lib.hid (sg_zero neg)
  clear H hl
  go_enter Tryz.func154,Tryz.ntmps154
  go_wp2
  refine bodyPost_ret (v:= .agg #[.bool false,.slice none 0 0]) (by simp[results,Tryz.results154,go_sem]) rfl ⟨_,rfl,?_,(Below.refl _ _).alloc (Nat.le_refl _) _⟩
  rw[SZ.out];exact Wc.zero _
 ·have hp:=dl_pos B32_two (show 0<N by omega)
  have HP:=Lib.hid (show 0<N by omega)
  obtain⟨d,hd⟩:∃d,d=dl B32 N:=⟨_,rfl⟩
  rw[←hd] at hl hp ⊢
  have HD:=Lib.hid hd
  clear hd h0
  go_enter Tryz.func154,Tryz.ntmps154
  go_wp2
  have hbl:=(Below.refl w.heap.size w).alloc (Nat.le_refl _) (.cells #[.bool neg,.slice ad d cap] 31)
  refine bodyPost_ret (v:= .agg #[.bool neg,.slice ad d cap]) (by simp[results,Tryz.results154,go_sem]) rfl ⟨_,rfl,?_,hbl⟩
  refine Wc.sg (Dg.below ?_ hbl) HP.out
  have:=H.out
  rw[length_dg,←HD.out] at this
  exact this
theorem Wc.shape {w:World} {v:Value} {z:Int} (h:Wc w v z):∃ad n cap,v= .agg #[.bool (decide (z<0)),.slice ad n cap]∧Dg w .u32 B32 (.slice ad n cap) z.natAbs:=by
 obtain⟨a,rfl,h2⟩:=h
 have h3:=h2
 obtain⟨ad,cap,rfl,_⟩:=h3
 exact⟨ad,_,cap,rfl,h2⟩
theorem Wc.form {w:World} {v:Value} {z:Int} (h:Wc w v z):∃(b:Bool) (ad:Option Addr) (n cap:Nat),v= .agg #[.bool b,.slice ad n cap]:=by
 obtain⟨ad,n,cap,h1,_⟩:=h.shape
 exact⟨_,ad,n,cap,h1⟩
theorem make_any (neg:Bool) (v:Value) (N:Nat) (w:World) (h:Nt w v N):
 Calls Tryz.prog 130 #[.bool neg,v] w (WcPost w (sg neg N)):=by
 have hsh:=h.shape
 obtain⟨ad,n,cap,rfl⟩:=hsh
 have hb0:=(Below.refl w.heap.size w).alloc (Nat.le_refl _) (.cells #[.bool false,.slice none 0 0] 31)
 go_enter Tryz.func130,Tryz.ntmps130
 go_wp2_with fail
 refine(trim_nt _ N _ (h.below hb0)).mono ?_
 rintro e w1 ⟨v1,rfl,d1,b1⟩
 go_wp2_with fail
 refine(signed_any neg v1 N _ d1).mono ?_
 rintro e w2 ⟨v2,rfl,h2,b2⟩
 obtain⟨ad2,n2,cap2,rfl,d2⟩:=h2.shape
 have b3:=b1.trans (b2.mono b1.size)
 obtain⟨hc,hf⟩:=bcell b3
 obtain⟨bel,kp⟩:=store2 hb0 (Nat.le_refl _) (by simp) (NoInt.box (l:=[.bool false,.slice none 0 0]) (by simp[notInt_bool,notInt_slice])) b3 (.bool (decide (sg neg N<0))) (.slice ad2 n2 cap2) (notInt_bool _)
 go_wp2
 refine bodyPost_ret (v:= .agg #[.bool (decide (sg neg N<0)),.slice ad2 n2 cap2]) (by simp[results,Tryz.results130,go_sem,hc]) rfl ⟨_,rfl,kp.wc h2,bel⟩
end
section
theorem whOf_any (n:Int) (w:World) (h0: -9223372036854775808≤n) (h1:n≤9223372036854775807):
 Calls Tryz.prog 101 #[.int .i64 n] w (WcPost w n):=by
 have hb0:=(Below.refl w.heap.size w).alloc (Nat.le_refl _) (.cells #[.bool false,.slice none 0 0] 31)
 by_cases hn:n<0
 ·obtain⟨m,hm⟩:∃m:Nat,n= -(m:Int):=⟨(-n).toNat,by omega⟩
  have ew:IntKind.u64.wrap (-IntKind.u64.wrap n)=(m:Int):=by rw[IntKind.wrap_u64,IntKind.wrap_u64];omega
  have es:sg true m=n:=by rw[hm];rfl
  have hm2:m<18446744073709551616:=by omega
  have EW:=Lib.hid ew;have ES:=Lib.hid es
  clear ew es hm
  go_enter Tryz.func101,Tryz.ntmps101
  go_wp2_with fail
  rw[EW.out]
  refine(of_any m _ hm2).mono ?_
  rintro e w1 ⟨v1,rfl,d1,bel⟩
  go_wp2_with fail
  have kc:=signed_any true v1 m _ d1
  rw[ES.out] at kc
  refine kc.mono ?_
  rintro e w2 ⟨v9,rfl,h9,bb⟩
  replace bel:=below_to bel bb
  clear kc bb d1
  obtain⟨b9,ad9,n9,cap9,rfl⟩:=h9.form
  obtain⟨hc,hf⟩:=bcell bel
  obtain⟨bel9,kp⟩:=store2 hb0 (Nat.le_refl _) (by simp) (NoInt.box (l:=[.bool false,.slice none 0 0]) (by simp[notInt_bool,notInt_slice])) bel (.bool b9) (.slice ad9 n9 cap9) (notInt_bool _)
  go_wp2
  exact bodyPost_ret (by simp[results,Tryz.results101,go_sem,hc]) rfl ⟨_,rfl,kp.wc h9,bel9⟩
 ·obtain⟨m,rfl⟩:∃m:Nat,n=(m:Int):=⟨n.toNat,by omega⟩
  go_enter Tryz.func101,Tryz.ntmps101
  go_wp2_with fail
  refine(of_any m _ (by omega)).mono ?_
  rintro e w1 ⟨v1,rfl,d1,bel⟩
  go_wp2_with fail
  have kc:=signed_any false v1 m _ d1
  rw[sg_false] at kc
  refine kc.mono ?_
  rintro e w2 ⟨v9,rfl,h9,bb⟩
  replace bel:=below_to bel bb
  clear kc bb d1
  obtain⟨b9,ad9,n9,cap9,rfl⟩:=h9.form
  obtain⟨hc,hf⟩:=bcell bel
  obtain⟨bel9,kp⟩:=store2 hb0 (Nat.le_refl _) (by simp) (NoInt.box (l:=[.bool false,.slice none 0 0]) (by simp[notInt_bool,notInt_slice])) bel (.bool b9) (.slice ad9 n9 cap9) (notInt_bool _)
  go_wp2
  exact bodyPost_ret (by simp[results,Tryz.results101,go_sem,hc]) rfl ⟨_,rfl,kp.wc h9,bel9⟩
def sz (z:Int):Int:=if z=0 then 0 else if z<0 then -1 else 1
def IntPost (w:World) (n:Int) (e:Ending) (w':World):Prop:=e= .returned (.int .i64 n)∧Below w.heap.size w w'
theorem whSign_any (v:Value) (z:Int) (w:World) (h:Wz w v z):
 Calls Tryz.prog 151 #[v] w (IntPost w (sz z)):=by
 obtain⟨neg,ad,n,cap,N,rfl,hN,rfl⟩:=h.shape
 have hb0:=(Below.refl w.heap.size w).alloc (Nat.le_refl _) (.cells #[.bool neg,.slice ad n cap] 31)
 have hN1:=hN.below hb0
 by_cases h0:N=0
 ·subst h0
  have es:sz (sg neg 0)=0:=by rw[sg_zero];rfl
  rw[es]
  clear es
  go_enter Tryz.func151,Tryz.ntmps151
  go_wp2_with fail
  have kc:=bits_any _ 0 _ hN1
  rw[dl_zero] at kc
  refine kc.mono ?_
  rintro e w2 ⟨rfl,hw⟩
  have hw:=hw.symm;subst hw
  clear kc
  go_wp2
  go_ret
  exact⟨rfl,hb0⟩
 ·obtain⟨B,hB⟩:∃B,B=dl 2 N:=⟨_,rfl⟩
  have hbp:(((B:Nat):Int) == 0)=false:=by have:=dl_pos (b:=2) (by omega) (show 0<N by omega);simp;omega
  have HB:=Lib.hid hB
  clear hB
  cases neg with
  |false=>
   have es:sz (sg false N)=1:=by unfold sz;rw[sg_false,if_neg (by omega),if_neg (by omega)]
   rw[es]
   clear es h0
   go_enter Tryz.func151,Tryz.ntmps151
   go_wp2_with fail
   have kc:=bits_any _ N _ hN1
   rw[←HB.out] at kc
   refine kc.mono ?_
   rintro e w2 ⟨rfl,hw⟩
   have hw:=hw.symm;subst hw
   clear kc
   go_wp2
   go_ret
   exact⟨rfl,hb0⟩
  |true=>
   have es:sz (sg true N)= -1:=by unfold sz;rw[sg_true,if_neg (by omega),if_pos (by omega)]
   rw[es]
   clear es h0
   go_enter Tryz.func151,Tryz.ntmps151
   go_wp2_with fail
   have kc:=bits_any _ N _ hN1
   rw[←HB.out] at kc
   refine kc.mono ?_
   rintro e w2 ⟨rfl,hw⟩
   have hw:=hw.symm;subst hw
   clear kc
   go_wp2
   go_ret
   exact⟨rfl,hb0⟩
theorem whOpp_any (v:Value) (z:Int) (w:World) (h:Wz w v z):
 Calls Tryz.prog 168 #[v] w (WcPost w (-z)):=by
 obtain⟨neg,ad,n,cap,N,rfl,hN,rfl⟩:=h.shape
 have hb0:=((Below.refl w.heap.size w).alloc (Nat.le_refl _) (.cells #[.bool neg,.slice ad n cap] 31)).alloc (by simp) (.cells #[.bool false,.slice none 0 0] 31)
 have hN1:=hN.below hb0
 have EO:=Lib.hid (show sg (!neg) N= - sg neg N from by cases neg <;> simp[sg])
 go_enter Tryz.func168,Tryz.ntmps168
 go_wp2_with fail
 have kc:=make_any (!neg) _ N _ hN1
 rw[EO.out] at kc
 refine kc.mono ?_
 rintro e w2 ⟨v9,rfl,h9,bel⟩
 clear kc
 have ni:NoInt ((w.alloc (.cells #[.bool neg,.slice ad n cap] 31)).alloc (.cells #[.bool false,.slice none 0 0] 31)) (w.heap.size+1):=by
  have:=NoInt.box (w:=w.alloc (.cells #[.bool neg,.slice ad n cap] 31)) (l:=[.bool false,.slice none 0 0]) (T:=31) (by simp[notInt_bool,notInt_slice])
  simpa using this
 obtain⟨b9,ad9,n9,cap9,rfl⟩:=h9.form
 obtain⟨hc,hf⟩:=bcell bel
 obtain⟨bel9,kp⟩:=store2 hb0 (by omega) (by simp) ni bel (.bool b9) (.slice ad9 n9 cap9) (notInt_bool _)
 go_wp2
 exact bodyPost_ret (by simp[results,Tryz.results168,go_sem,hc]) rfl ⟨_,rfl,kp.wc h9,bel9⟩
end
section
theorem sub_lt (v1 v2:Value) (N M:Nat) (w:World) (h1:Nt w v1 N) (h2:Nt w v2 M) (hlt:N<M):
 Calls Tryz.prog 210 #[v1,v2] w fun e w'=>e= .returned (.tuple #[.slice none 0 0,.bool false])∧Below w.heap.size w w':=by
 refine(sub_any v1 v2 N M w h1 h2).mono ?_
 rintro e w' (⟨_,h⟩|⟨h,_⟩)
 ·exact h
 ·omega
theorem sub_ge (v1 v2:Value) (N M:Nat) (w:World) (h1:Nt w v1 N) (h2:Nt w v2 M) (hle:M≤N):
 Calls Tryz.prog 210 #[v1,v2] w fun e w'=>∃v,e= .returned (.tuple #[v,.bool true])∧Dg w' .u32 B32 v (N-M)∧Below w.heap.size w w':=by
 refine(sub_any v1 v2 N M w h1 h2).mono ?_
 rintro e w' (⟨h,_⟩|⟨_,h⟩)
 ·omega
 ·exact h
theorem plus_any (v1 v2:Value) (z1:Int) (neg2:Bool) (N2 a b:Nat) (w:World) (h1:Wz w v1 z1) (h2:Nt w v2 N2) (l1:Lim z1.natAbs a) (l2:Lim N2 b) (ha:a≤1000000) (hb:b≤1000000):
 Calls Tryz.prog 167 #[v1,.bool neg2,v2] w (WcPost w (z1+sg neg2 N2)):=by
 obtain⟨neg1,ad1,n1,cap1,N1,rfl,hN1,rfl⟩:=h1.shape
 have hb0:=((Below.refl w.heap.size w).alloc (Nat.le_refl _) (.cells #[.bool neg1,.slice ad1 n1 cap1] 31)).alloc (by simp) (.cells #[.bool false,.slice none 0 0] 31)
 have hN1':=hN1.below hb0
 have hN2':=h2.below hb0
 obtain⟨ad2,n2,cap2,rfl⟩:=h2.shape
 rw[sg_natAbs] at l1
 by_cases e:neg1=neg2
 ·subst e
  have ES:=Lib.hid (show sg neg1 (N1+N2)=sg neg1 N1+sg neg1 N2 from by cases neg1 <;> simp[sg] <;> omega)
  go_enter Tryz.func167,Tryz.ntmps167
  go_wp2_with fail
  refine(add_any _ _ N1 N2 _ hN1' hN2' ((l1.add l2 1000001 (by omega) (by omega)).dl _ (by omega))).mono ?_
  rintro e w1 ⟨v3,rfl,d3,bb⟩
  replace hN1':=hN1'.below bb
  replace hN2':=hN2'.below bb
  have bel:=bb
  clear bb
  obtain⟨hc,hf⟩:=bcell bel
  go_wp2_with fail
  have kc:=signed_any neg1 v3 _ _ d3
  rw[ES.out] at kc
  refine kc.mono ?_
  rintro e w2 ⟨v9,rfl,h9,bb⟩
  clear kc
  replace hN1':=hN1'.below bb
  replace hN2':=hN2'.below bb
  replace d3:=d3.below bb
  replace bel:=below_to bel bb
  clear bb
  clear hc hf
  obtain⟨hc,hf⟩:=bcell bel
  have ni9:NoInt ((w.alloc (.cells #[.bool neg1,.slice ad1 n1 cap1] 31)).alloc (.cells #[.bool false,.slice none 0 0] 31)) (w.heap.size+1):=by
   have k0:=NoInt.box (w:=(w.alloc (.cells #[.bool neg1,.slice ad1 n1 cap1] 31))) (l:=[.bool false,.slice none 0 0]) (T:=31) (by simp[notInt_bool,notInt_slice])
   have e0:(w.alloc (.cells #[.bool neg1,.slice ad1 n1 cap1] 31)).heap.size =(w.heap.size+1):=by simp
   rw[e0] at k0
   exact k0
  obtain⟨b9,ad9,n9,cap9,rfl⟩:=h9.form
  obtain⟨bel9,kp⟩:=store2 hb0 (by omega) (by simp) ni9 bel (.bool b9) (.slice ad9 n9 cap9) (notInt_bool _)
  go_wp2
  exact bodyPost_ret (by simp[results,Tryz.results167,go_sem,hc]) rfl ⟨_,rfl,kp.wc h9,bel9⟩
 ·obtain rfl:neg2=!neg1:=by cases neg1 <;> cases neg2 <;> simp_all
  have hne:(neg1 == !neg1)=false:=by cases neg1 <;> rfl
  by_cases hlt:N1<N2
  ·have ES:=Lib.hid (show sg (!neg1) (N2-N1)=sg neg1 N1+sg (!neg1) N2 from by cases neg1 <;> simp[sg] <;> omega)
   have K1:=Lib.hid (sub_lt _ _ N1 N2 _ hN1' hN2' hlt)
   clear e
   go_enter Tryz.func167,Tryz.ntmps167
   go_wp2_with fail
   refine(K1.out).mono ?_
   rintro e w1 ⟨rfl,bb⟩
   replace hN1':=hN1'.below bb
   replace hN2':=hN2'.below bb
   have bel:=bb
   clear bb
   obtain⟨hc,hf⟩:=bcell bel
   clear K1
   go_wp2_with fail
   refine(sub_ge _ _ N2 N1 _ hN2' hN1' (by omega)).mono ?_
   rintro e w2 ⟨v3,rfl,d3,bb⟩
   replace hN1':=hN1'.below bb
   replace hN2':=hN2'.below bb
   replace bel:=below_to bel bb
   clear bb
   clear hc hf
   obtain⟨hc,hf⟩:=bcell bel
   go_wp2_with fail
   have kc:=signed_any (!neg1) v3 _ _ d3
   rw[ES.out] at kc
   refine kc.mono ?_
   rintro e w3 ⟨v9,rfl,h9,bb⟩
   clear kc
   replace hN1':=hN1'.below bb
   replace hN2':=hN2'.below bb
   replace d3:=d3.below bb
   replace bel:=below_to bel bb
   clear bb
   clear hc hf
   obtain⟨hc,hf⟩:=bcell bel
   have ni9:NoInt ((w.alloc (.cells #[.bool neg1,.slice ad1 n1 cap1] 31)).alloc (.cells #[.bool false,.slice none 0 0] 31)) (w.heap.size+1):=by
    have k0:=NoInt.box (w:=(w.alloc (.cells #[.bool neg1,.slice ad1 n1 cap1] 31))) (l:=[.bool false,.slice none 0 0]) (T:=31) (by simp[notInt_bool,notInt_slice])
    have e0:(w.alloc (.cells #[.bool neg1,.slice ad1 n1 cap1] 31)).heap.size =(w.heap.size+1):=by simp
    rw[e0] at k0
    exact k0
   obtain⟨b9,ad9,n9,cap9,rfl⟩:=h9.form
   obtain⟨bel9,kp⟩:=store2 hb0 (by omega) (by simp) ni9 bel (.bool b9) (.slice ad9 n9 cap9) (notInt_bool _)
   go_wp2
   exact bodyPost_ret (by simp[results,Tryz.results167,go_sem,hc]) rfl ⟨_,rfl,kp.wc h9,bel9⟩
  ·have ES:=Lib.hid (show sg neg1 (N1-N2)=sg neg1 N1+sg (!neg1) N2 from by cases neg1 <;> simp[sg] <;> omega)
   have K1:=Lib.hid (sub_ge _ _ N1 N2 _ hN1' hN2' (by omega))
   clear e hlt
   go_enter Tryz.func167,Tryz.ntmps167
   go_wp2_with fail
   refine(K1.out).mono ?_
   rintro e w1 ⟨v3,rfl,d3,bb⟩
   replace hN1':=hN1'.below bb
   replace hN2':=hN2'.below bb
   have bel:=bb
   clear bb
   obtain⟨hc,hf⟩:=bcell bel
   clear K1
   go_wp2_with fail
   have kc:=signed_any neg1 v3 _ _ d3
   rw[ES.out] at kc
   refine kc.mono ?_
   rintro e w2 ⟨v9,rfl,h9,bb⟩
   clear kc
   replace hN1':=hN1'.below bb
   replace hN2':=hN2'.below bb
   replace d3:=d3.below bb
   replace bel:=below_to bel bb
   clear bb
   clear hc hf
   obtain⟨hc,hf⟩:=bcell bel
   have ni9:NoInt ((w.alloc (.cells #[.bool neg1,.slice ad1 n1 cap1] 31)).alloc (.cells #[.bool false,.slice none 0 0] 31)) (w.heap.size+1):=by
    have k0:=NoInt.box (w:=(w.alloc (.cells #[.bool neg1,.slice ad1 n1 cap1] 31))) (l:=[.bool false,.slice none 0 0]) (T:=31) (by simp[notInt_bool,notInt_slice])
    have e0:(w.alloc (.cells #[.bool neg1,.slice ad1 n1 cap1] 31)).heap.size =(w.heap.size+1):=by simp
    rw[e0] at k0
    exact k0
   obtain⟨b9,ad9,n9,cap9,rfl⟩:=h9.form
   obtain⟨bel9,kp⟩:=store2 hb0 (by omega) (by simp) ni9 bel (.bool b9) (.slice ad9 n9 cap9) (notInt_bool _)
   go_wp2
   exact bodyPost_ret (by simp[results,Tryz.results167,go_sem,hc]) rfl ⟨_,rfl,kp.wc h9,bel9⟩
end
section
theorem whAdd_any (v1 v2:Value) (z1 z2:Int) (a b:Nat) (w:World) (h1:Wz w v1 z1) (h2:Wz w v2 z2) (l1:Lim z1.natAbs a) (l2:Lim z2.natAbs b) (ha:a≤1000000) (hb:b≤1000000):
 Calls Tryz.prog 119 #[v1,v2] w (WcPost w (z1+z2)):=by
 obtain⟨neg1,ad1,n1,cap1,N1,rfl,hN1,rfl⟩:=h1.shape
 obtain⟨neg2,ad2,n2,cap2,N2,rfl,hN2,rfl⟩:=h2.shape
 have hb0:=(((Below.refl w.heap.size w).alloc (Nat.le_refl _) (.cells #[.bool neg1,.slice ad1 n1 cap1] 31)).alloc (by simp) (.cells #[.bool neg2,.slice ad2 n2 cap2] 31)).alloc (by simp;omega) (.cells #[.bool false,.slice none 0 0] 31)
 have h1':=h1.below hb0
 have hN2':=hN2.below hb0
 have l2':=l2
 rw[sg_natAbs] at l2'
 go_enter Tryz.func119,Tryz.ntmps119
 go_wp2_with fail
 refine(plus_any _ _ (sg neg1 N1) neg2 N2 a b _ h1' hN2' l1 l2' ha hb).mono ?_
 rintro e w1 ⟨v9,rfl,h9,bb⟩
 replace h1':=h1'.below bb
 replace hN2':=hN2'.below bb
 have bel:=bb
 clear bb
 obtain⟨hc,hf⟩:=bcell bel
 have ni9:NoInt (((w.alloc (.cells #[.bool neg1,.slice ad1 n1 cap1] 31)).alloc (.cells #[.bool neg2,.slice ad2 n2 cap2] 31)).alloc (.cells #[.bool false,.slice none 0 0] 31)) (w.heap.size+2):=by
  have k0:=NoInt.box (w:=((w.alloc (.cells #[.bool neg1,.slice ad1 n1 cap1] 31)).alloc (.cells #[.bool neg2,.slice ad2 n2 cap2] 31))) (l:=[.bool false,.slice none 0 0]) (T:=31) (by simp[notInt_bool,notInt_slice])
  have e0:((w.alloc (.cells #[.bool neg1,.slice ad1 n1 cap1] 31)).alloc (.cells #[.bool neg2,.slice ad2 n2 cap2] 31)).heap.size =(w.heap.size+2):=by simp
  rw[e0] at k0
  exact k0
 obtain⟨b9,ad9,n9,cap9,rfl⟩:=h9.form
 obtain⟨bel9,kp⟩:=store2 hb0 (by omega) (by simp) ni9 bel (.bool b9) (.slice ad9 n9 cap9) (notInt_bool _)
 go_wp2
 exact bodyPost_ret (by simp[results,Tryz.results119,go_sem,hc]) rfl ⟨_,rfl,kp.wc h9,bel9⟩
end
end
end Go.Proofs.YtnljadejcfgmaaaGreatDoor
