import Derived.Test.YtgdpkknapcgcbaaGreatDoorKC9
import Derived.Deep.RegionHeld3
namespace Go.Proofs.YtgdpkknapcgcbaaGreatDoor
open Go.RowKit
set_option maxRecDepth 100000
set_option linter.unusedVariables false
set_option maxHeartbeats 8000000
section
section
theorem My {w:World} {a:Addr} {v:Value} (_h:w.cell? a=some v):Below w.heap.size w w.drew:=(Below.refl _ _).drew
def Rz (w:World) (v:Value) (z:Int):Prop:=∃a,v= .agg #[.bool (decide (z<0)),a]/\Dg w .i64 65536 a z.natAbs
theorem Rz.below {w w':World} {v:Value} {z:Int} (h:Rz w v z) (hb:Below w.heap.size w w'):Rz w' v z:=by
 obtain⟨a,h1,h2⟩:=h
 exact⟨a,h1,h2.below hb⟩
theorem eO.rz {w w':World} (k:eO w w') {v:Value} {z:Int} (h:Rz w v z):Rz w' v z:=by
 obtain⟨a,h1,h2⟩:=h
 exact⟨a,h1,k.dg h2⟩
theorem Rz.shape {w:World} {v:Value} {z:Int} (h:Rz w v z):∃b ad n cap,v= .agg #[.bool b,.slice ad n cap]/\Hid (b=decide (z<0))/\Dg w .i64 65536 (.slice ad n cap) z.natAbs:=by
 obtain⟨a,rfl,h2⟩:=h
 have h3:=h2
 obtain⟨ad,cap,rfl,_⟩:=h3
 exact⟨_,ad,_,cap,rfl,Lib.hid rfl,h2⟩
theorem Rz.form {w:World} {v:Value} {z:Int} (h:Rz w v z):∃(b:Bool) (ad:Option Addr) (n cap:Nat),v= .agg #[.bool b,.slice ad n cap]:=by
 obtain⟨b,ad,n,cap,h1,_⟩:=h.shape
 exact⟨b,ad,n,cap,h1⟩
def ke (w:World) (z:Int) (e:Ending) (w':World):Prop:=∃v,e= .returned v/\Rz w' v z/\Below w.heap.size w w'
theorem Rz.sg {w:World} {neg:Bool} {v:Value} {N:Nat} (h:Dg w .i64 65536 v N):Rz w (.agg #[.bool (neg && decide (0<N)),v]) (sg neg N):=by
 refine⟨v,?_,by rw[dZ];exact h⟩
 by_cases h0:N=0
 ·subst h0;rw[ga];simp
 ·rw[FD neg (by omega),show decide (0<N)=true from by simp;omega,Bool.and_true]
theorem J2 (v:Value) (N:Nat) (w:World) (h:Dg w .i64 65536 v N):CP 135 #[v] w fun e w'=>e= .returned v/\w'=w:=by
 obtain⟨ad,cap,rfl,rd,hc,hm,hl,hn⟩:=h
 have ho:=cG (b:=65536) (by omega) N
 refine(jO 65536 (by omega) ad _ cap (dg 65536 N) w rfl rd ho (by omega) hc hn).mono ?_
 rintro e w' ⟨rfl,hw⟩
 exact⟨by rw[cF (by omega)];rfl,hw⟩
theorem fF (neg:Bool) (v:Value) (N:Nat) (w:World) (h:Dg w .i64 65536 v N):
 CP 67 #[.bool neg,v] w (ke w (sg neg N)):=by
 have hsh:∃ad n cap,v= .slice ad n cap/\Hid (n=dl 65536 N)/\n<=1099511627776:=by
  obtain⟨ad,cap,h1,_,_,_,hl,_⟩:=h
  exact⟨ad,_,cap,h1,Lib.hid rfl,hl⟩
 obtain⟨ad,n,cap,rfl,HN,hl⟩:=hsh
 have hb0:=(Below.refl w.heap.size w).alloc (Nat.le_refl _) (.cells #[.bool false,.slice none 0 0] 43)
 have ni9:dD (w.alloc (.cells #[.bool false,.slice none 0 0] 43)) w.heap.size:=by
  have k0:=dD.box (w:=w) (l:=[.bool false,.slice none 0 0]) (T:=43) (by simp[cJ,eB])
  exact k0
 have h':=h.below hb0
 have KT:=Lib.hid (J2 _ N _ h')
 have hd:decide (0<(n:Int))=decide (0<N):=by
  by_cases h0:N=0
  ·subst h0;rw[HN.out,gb];rfl
  ·have:=eU (b:=65536) (by omega) (show 0<N by omega)
   rw[<-HN.out] at this;simp;omega
 have hp:0<N\/N=0:=by omega
 clear ni9
 cases neg
 ·have bel9:Below w.heap.size w (w.alloc (.cells #[.bool false,.slice ad n cap] 43)):=(Below.refl _ _).alloc (Nat.le_refl _) _
  have hz:Rz (w.alloc (.cells #[.bool false,.slice ad n cap] 43)) (.agg #[.bool false,.slice ad n cap]) (sg false N):=by
   exact Rz.sg (neg:=false) (h.below bel9)
  have HZ:=Lib.hid hz
  clear hz hd hp
  go_enter Tryz.func67,Tryz.ntmps67
  go_wp2_with fail
  refine KT.out.mono ?_
  rintro e wx ⟨rfl,hw⟩
  have hw:=hw.symm;subst hw
  go_wp2
  exact bodyPost_ret (by simp[results,Tryz.results67,go_sem]) rfl ⟨_,rfl,HZ.out,bel9⟩
 ·rcases hp with hp|hp
  ·have hn:0<n:=by have:=eU (b:=65536) (by omega) hp;rw[<-HN.out] at this;exact this
   have bel9:Below w.heap.size w (w.alloc (.cells #[.bool true,.slice ad n cap] 43)):=(Below.refl _ _).alloc (Nat.le_refl _) _
   have hz:Rz (w.alloc (.cells #[.bool true,.slice ad n cap] 43)) (.agg #[.bool true,.slice ad n cap]) (sg true N):=by
    have:=Rz.sg (neg:=true) (h.below bel9)
    simp[hp] at this
    exact this
   have HZ:=Lib.hid hz
   clear hz hd hp
   go_enter Tryz.func67,Tryz.ntmps67
   go_wp2_with fail
   refine KT.out.mono ?_
   rintro e wx ⟨rfl,hw⟩
   have hw:=hw.symm;subst hw
   go_wp2
   exact bodyPost_ret (by simp[results,Tryz.results67,go_sem]) rfl ⟨_,rfl,HZ.out,bel9⟩
  ·have hn:n=0:=by rw[HN.out,hp];exact gb _
   subst hn
   have bel9:Below w.heap.size w (w.alloc (.cells #[.bool false,.slice ad 0 cap] 43)):=(Below.refl _ _).alloc (Nat.le_refl _) _
   have hz:Rz (w.alloc (.cells #[.bool false,.slice ad 0 cap] 43)) (.agg #[.bool false,.slice ad 0 cap]) (sg true N):=by
    have:=Rz.sg (neg:=true) (h.below bel9)
    rw[show decide (0<N)=false from by rw[hp];rfl] at this
    exact this
   have HZ:=Lib.hid hz
   clear hz hd hp
   go_enter Tryz.func67,Tryz.ntmps67
   go_wp2_with fail
   refine KT.out.mono ?_
   rintro e wx ⟨rfl,hw⟩
   have hw:=hw.symm;subst hw
   go_wp2
   exact bodyPost_ret (by simp[results,Tryz.results67,go_sem]) rfl ⟨_,rfl,HZ.out,bel9⟩
end
section
theorem PR {b:Bool} {z:Int} (h:b=decide (z<0)):sg (!b) z.natAbs= -z:=by
 subst h;unfold sg
 by_cases h:z<0
 ·simp[h];omega
 ·simp[h];omega
theorem Rz.len {w:World} {ad:Option Addr} {n cap N:Nat} (h:Dg w .i64 65536 (.slice ad n cap) N):n=dl 65536 N:=by
 obtain⟨_,_,h1,_⟩:=h
 injection h1
theorem kS (v1:Value) (z1:Int) (w:World) (h1:Rz w v1 z1):
 CP 138 #[v1] w (ke w (-z1)):=by
 obtain⟨neg1,ad1,n1,cap1,rfl,hn1,hN1⟩:=h1.shape
 have hb0:=((Below.refl w.heap.size w).alloc (Nat.le_refl _) (.cells #[.bool neg1,.slice ad1 n1 cap1] 43)).alloc (by first|(simp;done)|(simp;omega)|omega) (.cells #[.bool false,.slice none 0 0] 43)
 have ni9:dD ((w.alloc (.cells #[.bool neg1,.slice ad1 n1 cap1] 43)).alloc (.cells #[.bool false,.slice none 0 0] 43)) (w.heap.size+1):=by
  have k0:=dD.box (w:=(w.alloc (.cells #[.bool neg1,.slice ad1 n1 cap1] 43))) (l:=[.bool false,.slice none 0 0]) (T:=43) (by simp[cJ,eB])
  have e0:(w.alloc (.cells #[.bool neg1,.slice ad1 n1 cap1] 43)).heap.size =(w.heap.size+1):=by simp
  rw[e0] at k0
  exact k0
 have hN1':=hN1.below hb0
 have ES:=Lib.hid (PR hn1.out)
 go_enter Tryz.func138,Tryz.ntmps138
 go_wp2_with fail
 have kc:=fF (!neg1) _ _ _ hN1'
 rw[ES.out] at kc
 refine kc.mono ?_
 rintro e w1 ⟨v9,rfl,h9,bb⟩
 clear kc
 replace hN1':=hN1'.below bb
 have bel:=bb
 clear bb
 obtain⟨b9,ad9,n9,cap9,rfl⟩:=h9.form
 obtain⟨hc,hf⟩:=iK bel
 obtain⟨bel9,kp⟩:=lM hb0 (by first|(simp;done)|(simp;omega)|omega) (by first|(simp;done)|(simp;omega)|omega) ni9 bel (.bool b9) (.slice ad9 n9 cap9) (cJ _)
 go_wp2
 exact bodyPost_ret (by simp[results,Tryz.results138,go_sem,hc]) rfl ⟨_,rfl,kp.rz h9,bel9⟩
theorem jR (v1:Value) (z1:Int) (w:World) (h1:Rz w v1 z1):
 CP 136 #[v1] w (jP w (sz z1)):=by
 obtain⟨neg1,ad1,n1,cap1,rfl,hn1,hN1⟩:=h1.shape
 have hb0:=(Below.refl w.heap.size w).alloc (Nat.le_refl _) (.cells #[.bool neg1,.slice ad1 n1 cap1] 43)
 have HL:=Lib.hid (Rz.len hN1)
 by_cases h0:z1=0
 ·have e0:n1=0:=by rw[HL.out,h0];exact gb _
  rw[show sz z1=0 from by rw[h0];rfl]
  clear h0 HL
  subst e0
  go_enter Tryz.func136,Tryz.ntmps136
  go_wp2
  go_ret
  exact⟨rfl,hb0⟩
 ·have hp:0<n1:=by have:=eU (b:=65536) (n:=z1.natAbs) (by omega) (by omega);rw[HL.out];exact this
  have hp0:((n1:Int) == 0)=false:=by simp;omega
  by_cases hlt:z1<0
  ·obtain rfl:neg1=true:=by rw[hn1.out];simp;omega
   rw[show sz z1= -1 from by unfold sz;rw[if_neg h0,if_pos hlt]]
   clear h0 hlt HL hn1
   go_enter Tryz.func136,Tryz.ntmps136
   go_wp2
   go_ret
   exact⟨rfl,hb0⟩
  ·obtain rfl:neg1=false:=by rw[hn1.out];simp;omega
   rw[show sz z1=1 from by unfold sz;rw[if_neg h0,if_neg hlt]]
   clear h0 hlt HL hn1
   go_enter Tryz.func136,Tryz.ntmps136
   go_wp2
   go_ret
   exact⟨rfl,hb0⟩
end
section
end
section
theorem ON (x y:Int):sz (x+ -y)=ci x y:=by
 unfold sz ci
 split <;> (try split) <;> (try split) <;> (try split) <;> omega
end
section
def Rn (w:World) (N:Nat) (n o i:Value) (wr:World):Prop:=
 ∃k m:Nat,k<=4/\k<=dl 65536 N/\i= .int .i64 k/\n= .int .i64 m/\m=N/65536^k/\Acc wr .i64 3 w.heap.size o ((dg 65536 N).take k)/\Below w.heap.size w wr
theorem LO {N k:Nat} (h:0<N/65536^k):k<dl 65536 N:=by
 by_cases hk:k<dl 65536 N
 ·exact hk
 ·exfalso
  have h1:=jx (b:=65536) (by omega) N
  have h2:(65536:Nat)^dl 65536 N<=65536^k:=Nat.pow_le_pow_right (by omega) (by omega)
  rw[Nat.div_eq_of_lt (by omega)] at h
  omega
theorem MD {N k:Nat} (h:N/65536^k=0):(dg 65536 N).take k=dg 65536 N:=by
 have h1:N<65536^k:=by
  by_cases hh:N<65536^k
  ·exact hh
  ·have:=Nat.div_pos (Nat.le_of_not_lt hh) (Nat.pow_pos (n:=k) (show 0<65536 by omega));omega
 exact List.take_of_length_le (fT (by omega) h1)
theorem L5 {N:Nat} (h:N<18446744073709551616):N/65536^4=0:=Nat.div_eq_of_lt (Nat.lt_of_lt_of_le h (by decide))
theorem BP (N:Nat) (w:World) (hN:N<9223372036854775808):
 CP 239 #[.int .i64 N] w (kv w N):=by
 obtain⟨i0,hi,hz0,hz1,hz2⟩:=info_parts Tryz.info3
 have HN:=Lib.hid hN
 have hd4:dl 65536 N<=1099511627776:=Nat.le_trans (fT (k:=4) (by omega) (Nat.lt_of_lt_of_le hN (by decide))) (by omega)
 go_enter Tryz.func239,Tryz.ntmps239
 go_wp2
 go_loopw [0,3,4] (fun n o i wr=>Rn w N n o i wr) (fun _ _ i _=>4-(intOf i).toNat)
 case atStart=>exact⟨0,N,by omega,by omega,rfl,rfl,by simp,Acc.empty w .i64 3 w.heap.size (Nat.le_refl _),(Below.refl _ _).alloc (Nat.le_refl _) _⟩
 case round=>
  obtain⟨k,m,hk,hkd,rfl,rfl,hm,hacc,hbe⟩:=hrel
  have HM:=Lib.hid hm
  have hmb:m<9223372036854775808:=by rw[hm];exact Nat.lt_of_le_of_lt (Nat.div_le_self _ _) HN.out
  clear hm
  by_cases hc:k<4/\0<m
  ·obtain⟨h4,hp⟩:=hc
   have hmore:=LO (N:=N) (k:=k) (by rw[<-HM.out];exact hp)
   have HT:=Lib.hid (my (xs:=dg 65536 N) (k:=k) hmore)
   have HL:=Lib.hid (xI (b:=65536) (by omega) N k)
   have hlen:((dg 65536 N).take k).length <=2199023255552:=by simp;omega
   have HD:=Lib.hid (show m/65536=N/65536^(k+1) from by rw[HM.out,Nat.div_div_eq_div_mul,Nat.pow_succ])
   go_wp2_with (at_builtin;refine ir _ rfl _ _ 41 rfl .i64 3 i0 8 Tryz.underlying41 hi hz0 hz1 hz2 (by decide) w.heap.size _ _ hacc rfl _ (m%65536) (by omega) rfl hlen hbe.size ?_)
   intro v' w' hacc2 hbel2
   go_wp2
   go_roundw
   case rel=>exact⟨k+1,m/65536,by omega,hmore,by go_num,by go_num,HD.out,by rw[HT.out,HL.out,<-HM.out];exact hacc2,hbe.trans hbel2⟩
   case measure=>simp[intOf];omega
  ·have hz:m=0:=by
    by_cases h4:k<4
    ·omega
    ·obtain rfl:k=4:=by omega
     rw[HM.out];exact L5 (by have:=HN.out;omega)
   have HZ:=Lib.hid hz
   have hend:kv w N (.returned _) _:=⟨_,rfl,(by rw[MD (by rw[<-HM.out];exact hz)] at hacc;exact hacc.sq (by rw[aB];exact hd4)),hbe⟩
   have HE:=Lib.hid hend
   clear hz hend hacc
   have hz1:¬0<m:=by have:=HZ.out;omega
   by_cases h4:k<4
   all_goals
    go_wp2
    go_ret
    exact HE.out
end
section
theorem vv (n:Int) (w:World) (h0: -9223372036854775808<n) (h1:n<=9223372036854775807):
 CP 198 #[.int .i64 n] w (ke w n):=by
 have hb0:=(Below.refl w.heap.size w).alloc (Nat.le_refl _) (.cells #[.bool false,.slice none 0 0] 43)
 have ni9:dD (w.alloc (.cells #[.bool false,.slice none 0 0] 43)) w.heap.size:=by
  have k0:=dD.box (w:=w) (l:=[.bool false,.slice none 0 0]) (T:=43) (by simp[cJ,eB])
  exact k0
 by_cases hn:n<0
 ·obtain⟨m,hm⟩:∃m:Nat,n= -(m:Int):=⟨(-n).toNat,by omega⟩
  have em: -n=(m:Int):=by omega
  have hm2:m<9223372036854775808:=by omega
  have ES:=Lib.hid (show sg true m=n from by rw[hm];rfl)
  have EM:=Lib.hid em
  clear hm em
  go_enter Tryz.func198,Tryz.ntmps198
  go_wp2_with fail
  rw[EM.out]
  refine(BP m _ hm2).mono ?_
  rintro e w1 ⟨v3,rfl,d3,bb⟩
  have bel:=bb
  clear bb
  go_wp2_with fail
  have kc:=fF true _ _ _ d3
  rw[ES.out] at kc
  refine kc.mono ?_
  rintro e w2 ⟨v9,rfl,h9,bb⟩
  clear kc
  replace d3:=d3.below bb
  replace bel:=aF bel bb
  clear bb
  obtain⟨b9,ad9,n9,cap9,rfl⟩:=h9.form
  obtain⟨hc,hf⟩:=iK bel
  obtain⟨bel9,kp⟩:=lM hb0 (by first|(simp;done)|(simp;omega)|omega) (by first|(simp;done)|(simp;omega)|omega) ni9 bel (.bool b9) (.slice ad9 n9 cap9) (cJ _)
  go_wp2
  exact bodyPost_ret (by simp[results,Tryz.results198,go_sem,hc]) rfl ⟨_,rfl,kp.rz h9,bel9⟩
 ·obtain⟨m,rfl⟩:∃m:Nat,n=(m:Int):=⟨n.toNat,by omega⟩
  have hm2:m<9223372036854775808:=by omega
  have ES:=Lib.hid (dG m)
  go_enter Tryz.func198,Tryz.ntmps198
  go_wp2_with fail
  refine(BP m _ hm2).mono ?_
  rintro e w1 ⟨v3,rfl,d3,bb⟩
  have bel:=bb
  clear bb
  go_wp2_with fail
  have kc:=fF false _ _ _ d3
  rw[ES.out] at kc
  refine kc.mono ?_
  rintro e w2 ⟨v9,rfl,h9,bb⟩
  clear kc
  replace d3:=d3.below bb
  replace bel:=aF bel bb
  clear bb
  obtain⟨b9,ad9,n9,cap9,rfl⟩:=h9.form
  obtain⟨hc,hf⟩:=iK bel
  obtain⟨bel9,kp⟩:=lM hb0 (by first|(simp;done)|(simp;omega)|omega) (by first|(simp;done)|(simp;omega)|omega) ni9 bel (.bool b9) (.slice ad9 n9 cap9) (cJ _)
  go_wp2
  exact bodyPost_ret (by simp[results,Tryz.results198,go_sem,hc]) rfl ⟨_,rfl,kp.rz h9,bel9⟩
end
end
structure InX (w:World) (a:Option Addr) (n c:Nat) (xs:List Nat):Prop where
 len:n=xs.length
 rd:Rd w .u32 a xs
 ok:okb B32 xs
 cap:xs.length<=c
 max:c<=maxLen
 nil:a=none->c=0
theorem InX.below {w w':World} {a:Option Addr} {n c:Nat} {xs:List Nat} (h:InX w a n c xs) (hb:Below w.heap.size w w'):InX w' a n c xs:=
 ⟨h.len,h.rd.below hb,h.ok,h.cap,h.max,h.nil⟩
def jX (neg:Bool) (xs:List Nat) (m:Nat):Int:=sg neg (vl B32 (xs.take m))
theorem Rx (a:Option Addr) (n c m:Nat) (xs:List Nat) (w:World) (h:InX w a n c xs) (hm:m<=1000):
 CP 234 #[.slice a n c,.int .i64 m] w (Pl w (xs.take m)):=
 PK a n c xs m w h.len h.rd h.cap h.max h.nil hm
theorem yN (neg:Bool) (a:Option Addr) (n c m:Nat) (xs:List Nat) (w:World) (h:InX w a n c xs) (hm:m<=1000):
 CP 183 #[.agg #[.bool neg,.slice a n c],.int .i64 m] w (ke w (jX neg xs m)):=by
 have hb0:=((Below.refl w.heap.size w).alloc (Nat.le_refl _) (.cells #[.bool neg,.slice a n c] 161)).alloc (by first|(simp;done)|(simp;omega)|omega) (.cells #[.bool false,.slice none 0 0] 43)
 have ni9:dD ((w.alloc (.cells #[.bool neg,.slice a n c] 161)).alloc (.cells #[.bool false,.slice none 0 0] 43)) (w.heap.size+1):=by
  have k0:=dD.box (w:=(w.alloc (.cells #[.bool neg,.slice a n c] 161))) (l:=[.bool false,.slice none 0 0]) (T:=43) (by simp[cJ,eB])
  have e0:(w.alloc (.cells #[.bool neg,.slice a n c] 161)).heap.size =(w.heap.size+1):=by simp
  rw[e0] at k0
  exact k0
 have h':=h.below hb0
 have hne:w.heap.size+1≠w.heap.size:=by omega
 have ok:=Lib.hid (jG h.ok m)
 have lx:(xs.take m).length <=1073741824:=by simp;omega
 have s00:(w.alloc (.cells #[.bool neg,.slice a n c] 161)).cell? ⟨w.heap.size,0,none⟩=some (.bool neg):=by simp
 replace s00:=(World.cell?_alloc_old (w.alloc (.cells #[.bool neg,.slice a n c] 161)) (.cells #[.bool false,.slice none 0 0] 43) ⟨w.heap.size,0,none⟩ (by first|(simp;done)|(simp;omega)|omega)).trans s00
 have s01:(w.alloc (.cells #[.bool neg,.slice a n c] 161)).cell? ⟨w.heap.size,1,none⟩=some (.slice a n c):=by simp
 replace s01:=(World.cell?_alloc_old (w.alloc (.cells #[.bool neg,.slice a n c] 161)) (.cells #[.bool false,.slice none 0 0] 43) ⟨w.heap.size,1,none⟩ (by first|(simp;done)|(simp;omega)|omega)).trans s01
 go_enter Tryz.func183,Tryz.ntmps183
 go_wp2_with fail
 have bd:=My s00
 replace h':=h'.below bd
 replace s00:=(bd.cell (p:=⟨w.heap.size,0,none⟩) (jQ s00)).trans s00
 replace s01:=(bd.cell (p:=⟨w.heap.size,1,none⟩) (jQ s01)).trans s01
 have bel:=bd
 clear bd
 go_region_held3 (fun w'=>w'.cell? ⟨w.heap.size,0,none⟩=some (.bool neg)/\w'.cell? ⟨w.heap.size,1,none⟩=some (.slice a n c)) (first|exact⟨s00,s01⟩|go_keep)
  (first
  |(go_at_call 234;refine(Rx _ _ _ m xs _ h' hm).mono ?_;rintro e w1 ⟨v3,rfl,d3,bb⟩;replace h':=h'.below bb;replace s00:=(bb.cell (p:=⟨w.heap.size,0,none⟩) (jQ s00)).trans s00;replace s01:=(bb.cell (p:=⟨w.heap.size,1,none⟩) (jQ s01)).trans s01;replace bel:=aF bel bb;clear bb)
  |(go_at_call 68;refine(Ez _ _ _ d3 ok.out lx).mono ?_;rintro e w2 ⟨v4,rfl,d4,bb⟩;replace h':=h'.below bb;replace d3:=d3.below bb;replace s00:=(bb.cell (p:=⟨w.heap.size,0,none⟩) (jQ s00)).trans s00;replace s01:=(bb.cell (p:=⟨w.heap.size,1,none⟩) (jQ s01)).trans s01;replace bel:=aF bel bb;clear bb)
  |(go_at_call 67;refine(fF _ _ _ _ d4).mono ?_;rintro e w3 ⟨v9,rfl,h9,bb⟩;replace h':=h'.below bb;replace d3:=d3.below bb;replace d4:=d4.below bb;replace s00:=(bb.cell (p:=⟨w.heap.size,0,none⟩) (jQ s00)).trans s00;replace s01:=(bb.cell (p:=⟨w.heap.size,1,none⟩) (jQ s01)).trans s01;replace bel:=aF bel bb;clear bb;obtain⟨b9,ad9,n9,cap9,rfl⟩:=h9.form;obtain⟨hc,hf⟩:=iK bel))
 obtain⟨bel9,kp⟩:=lM hb0 (by first|(simp;done)|(simp;omega)|omega) (by first|(simp;done)|(simp;omega)|omega) ni9 bel (.bool b9) (.slice ad9 n9 cap9) (cJ _)
 go_wp2
 exact bodyPost_ret (by simp[results,Tryz.results183,go_sem,hc]) rfl ⟨_,rfl,kp.rz h9,bel9⟩
section
section
variable {P:Program} {ops:Array Oper} {Q:Exit->Act->World->Prop}
end
theorem Wz.form {w:World} {v:Value} {z:Int} (h:Wz w v z):∃(b:Bool) (ad:Option Addr) (n cap:Nat),v= .agg #[.bool b,.slice ad n cap]:=by
 obtain⟨b,ad,n,cap,_,h1,_⟩:=h.shape
 exact⟨b,ad,n,cap,h1⟩
end
theorem ip {x y:Int} {a b:Nat} (h1:Lim x.natAbs a) (h2:Lim y.natAbs b) (c:Nat) (ha:a<c) (hb:b<c):Lim (x+y).natAbs c:=(h1.add h2 c ha hb).le (Int.natAbs_add_le x y)
theorem kO {x:Int} {a:Nat} (h:Lim x.natAbs a):Lim (-x).natAbs a:=by rw[Int.natAbs_neg];exact h
theorem df {x y:Int} {a b:Nat} (h1:Lim x.natAbs a) (h2:Lim y.natAbs b):Lim (x*y).natAbs (a+b):=by rw[Int.natAbs_mul];exact h1.mul h2
theorem Dg.form {w:World} {k:IntKind} {b:Nat} {v:Value} {n:Nat} (h:Dg w k b v n):∃ad m c,v= .slice ad m c:=by
 obtain⟨ad,cap,rfl,_⟩:=h
 exact⟨ad,_,cap,rfl⟩
theorem Nt.form {w:World} {v:Value} {n:Nat} (h:Nt w v n):∃ad m c,v= .slice ad m c:=h.shape
theorem Dg.keep {w w':World} {k:IntKind} {b:Nat} {v:Value} {n:Nat} (h:Dg w k b v n) (kp:eO w w'):Dg w' k b v n:=kp.dg h
theorem Wc.keep {w w':World} {v:Value} {z:Int} (h:Wc w v z) (kp:eO w w'):Wc w' v z:=kp.wc h
theorem Rz.keep {w w':World} {v:Value} {z:Int} (h:Rz w v z) (kp:eO w w'):Rz w' v z:=kp.rz h
theorem InX.keep {w w':World} {ad:Option Addr} {n c:Nat} {xs:List Nat} (h:InX w ad n c xs) (kp:eO w w'):InX w' ad n c xs:=by
 exact⟨h.len,kp _ _ _ h.rd,h.ok,h.cap,h.max,h.nil⟩
theorem Wc.abs {w:World} {b:Bool} {a:Value} {z:Int} (h:Wc w (.agg #[.bool b,a]) z):Dg w .u32 B32 a z.natAbs:=by
 obtain⟨a',h1,h2⟩:=h
 injection h1 with h1
 simp only [Array.mk.injEq,List.cons.injEq,and_true] at h1
 obtain⟨_,rfl⟩:=h1
 exact h2
theorem Wc.neg {w:World} {b:Bool} {a:Value} {z:Int} (h:Wc w (.agg #[.bool b,a]) z):b=decide (z<0):=by
 obtain⟨a',h1,h2⟩:=h
 injection h1 with h1
 simp only [Array.mk.injEq,List.cons.injEq,and_true,Value.bool.injEq] at h1
 exact h1.1
theorem Wz.abso {w:World} {b:Bool} {a:Value} {z:Int} (h:Wz w (.agg #[.bool b,a]) z):Nt w a z.natAbs:=by
 obtain⟨b',a',N,h1,h2,h3⟩:=h
 injection h1 with h1
 simp only [Array.mk.injEq,List.cons.injEq,and_true] at h1
 obtain⟨_,rfl⟩:=h1
 rw[h3,dZ];exact h2
theorem Rz.abs {w:World} {b:Bool} {a:Value} {z:Int} (h:Rz w (.agg #[.bool b,a]) z):Dg w .i64 65536 a z.natAbs:=by
 obtain⟨a',h1,h2⟩:=h
 injection h1 with h1
 simp only [Array.mk.injEq,List.cons.injEq,and_true] at h1
 obtain⟨_,rfl⟩:=h1
 exact h2
def Wg (w:World) (v:Value) (b:Bool) (N:Nat):Prop:=∃s,v= .agg #[.bool b,s]/\Dg w .u32 B32 s N
theorem Wg.mk {w:World} {s:Value} {b:Bool} {N:Nat} (h:Dg w .u32 B32 s N):Wg w (.agg #[.bool b,s]) b N:=⟨s,rfl,h⟩
theorem Wg.below {w w':World} {v:Value} {b:Bool} {N:Nat} (h:Wg w v b N) (hb:Below w.heap.size w w'):Wg w' v b N:=by
 obtain⟨s,rfl,h⟩:=h;exact⟨s,rfl,h.below hb⟩
theorem Wg.wz {w:World} {v:Value} {b:Bool} {N:Nat} (h:Wg w v b N):Wz w v (sg b N):=by
 obtain⟨s,rfl,h⟩:=h;exact⟨b,s,N,rfl,h.nt,rfl⟩
theorem Wz.mk {w:World} {s:Value} {b:Bool} {N:Nat} (h:Nt w s N):Wz w (.agg #[.bool b,s]) (sg b N):=⟨b,s,N,rfl,h,rfl⟩
theorem Dg.nil (w:World):Dg w .u32 B32 (.slice none 0 0) 0:=Dg.zero _ _ _ _ (by unfold maxLen;omega) (fun _=>rfl)
theorem lI {N k:Nat} (b:Bool) (h:Lim N k):Lim (sg b N).natAbs k:=by rw[dZ];exact h
theorem Mz {n:Int} (h:n.natAbs<18446744073709551616):Lim n.natAbs 2:=Lim.of64 h
theorem wF (neg:Bool) {xs:List Nat} (h:okb B32 xs) (m:Nat):Lim (jX neg xs m).natAbs m:=by
 unfold jX
 rw[dZ]
 exact Lim.of_sq (jG h m) (by simp;omega)
theorem Qu {p:Prop} [Decidable p] (h:¬p):decide p=false:=decide_eq_false h
theorem QK {p:Prop} [Decidable p] (h:p):decide p=true:=decide_eq_true h
theorem eq0 {x:Int} (h:x=0):decide (x=0)=true:=by subst h;rfl
section
section
theorem Dg.len {w:World} {k:IntKind} {b:Nat} {ad:Option Addr} {m c N:Nat} (h:Dg w k b (.slice ad m c) N):m=dl b N:=by
 obtain⟨ad',cap,h1,_⟩:=h
 rw[aB] at h1
 injection h1
theorem Dg.len0 {w:World} {k:IntKind} {b:Nat} {ad:Option Addr} {m c:Nat} (h:Dg w k b (.slice ad m c) 0):m=0:=by rw[h.len,gb]
theorem Dg.lenp {w:World} {k:IntKind} {b:Nat} (hb:2<=b) {ad:Option Addr} {m c N:Nat} (h:Dg w k b (.slice ad m c) N) (hN:0<N):0<m:=by rw[h.len];exact eU hb hN
theorem Wc.cast {w:World} {v:Value} {z z':Int} (h:Wc w v z) (e:z=z'):Wc w v z':=by subst e;exact h
def dn (q:Rat):Nat:=if q=0 then 0 else q.den
theorem Cy:dn 0=0:=if_pos rfl
theorem xE {q:Rat} (h:q≠0):dn q=q.den:=if_neg h
def Rq (w:World) (v:Value) (q:Rat):Prop:=
 ∃b ad n c ae m d,v= .agg #[.bool b,.slice ad n c,.slice ae m d]/\Wc w (.agg #[.bool b,.slice ad n c]) q.num/\Dg w .u32 B32 (.slice ae m d) (dn q)
def Gj (w:World) (q:Rat) (e:Ending) (w':World):Prop:=∃v,e= .returned v/\Rq w' v q/\Below w.heap.size w w'
theorem Rq.shape {w:World} {v:Value} {q:Rat} (h:Rq w v q):∃b ad n c ae m d,v= .agg #[.bool b,.slice ad n c,.slice ae m d]/\Wc w (.agg #[.bool b,.slice ad n c]) q.num/\Dg w .u32 B32 (.slice ae m d) (dn q):=h
theorem Rq.form {w:World} {v:Value} {q:Rat} (h:Rq w v q):∃b ad n c ae m d,v= .agg #[.bool b,.slice ad n c,.slice ae m d]:=by
 obtain⟨b,ad,n,c,ae,m,d,h1,_⟩:=h
 exact⟨b,ad,n,c,ae,m,d,h1⟩
theorem Rq.below {w w':World} {v:Value} {q:Rat} (h:Rq w v q) (hb:Below w.heap.size w w'):Rq w' v q:=by
 obtain⟨b,ad,n,c,ae,m,d,h1,h2,h3⟩:=h
 exact⟨b,ad,n,c,ae,m,d,h1,h2.below hb,h3.below hb⟩
abbrev CQ (f:FuncId) (xs:Array Value) (w:World) (q:Rat):Prop:=Calls Tryz.prog f xs w (Gj w q)
def Iq (q:Rat):World->Value->Prop:=fun w v=>Rq w v q
instance mbq {q:Rat}:MbI (Iq q):=⟨fun _ _ _ h hb=>Rq.below h hb⟩
theorem Rq.fo {w:World} {v:Value} {q:Rat} (h:Rq w v q):∃r:R7,v=r.v:=by
 obtain⟨b,x,n,c,y,m,d,e⟩:=h.form
 exact⟨⟨b,x,n,c,y,m,d⟩,e⟩
instance mbd {k:IntKind} {b n:Nat}:MbI (fun w v=>Dg w k b v n):=⟨fun _ _ _ h hb=>Dg.below h hb⟩
instance mbw {z:Int}:MbI (fun w v=>Wc w v z):=⟨fun _ _ _ h hb=>Wc.below h hb⟩
instance mbx {z:Int}:MbI (fun w v=>Wz w v z):=⟨fun _ _ _ h hb=>Wz.below h hb⟩
instance mbg {b:Bool} {n:Nat}:MbI (fun w v=>Wg w v b n):=⟨fun _ _ _ h hb=>Wg.below h hb⟩
theorem Rq.keep {w w':World} {v:Value} {q:Rat} (h:Rq w v q) (kp:eO w w'):Rq w' v q:=by
 obtain⟨b,ad,n,c,ae,m,d,h1,h2,h3⟩:=h
 exact⟨b,ad,n,c,ae,m,d,h1,h2.keep kp,h3.keep kp⟩
theorem Pg {q:Rat} (h:q.num≠0):q≠0:=fun e=>h (by rw[e];rfl)
theorem Gs {q:Rat} (h:q≠0):q.num≠0:=fun e=>h (Rat.num_eq_zero.1 e)
theorem Rq.zero (w:World):Rq w (.agg #[.bool false,.slice none 0 0,.slice none 0 0]) 0:=
 ⟨false,none,0,0,none,0,0,rfl,Wc.zero w,by rw[Cy];exact Dg.nil w⟩
theorem Rq.mk {w:World} {b:Bool} {ad ae:Option Addr} {n c m d N D:Nat} {q:Rat} (h1:Dg w .u32 B32 (.slice ad n c) N) (h2:Dg w .u32 B32 (.slice ae m d) D) (hN:N≠0) (hz:sg b N=q.num) (hd:D=q.den):
 Rq w (.agg #[.bool b,.slice ad n c,.slice ae m d]) q:=by
 have hp:0<N:=by omega
 have hne:q.num≠0:=by rw[<-hz];intro e;have:=congrArg Int.natAbs e;rw[dZ] at this;simp at this;omega
 have hw:Wc w (.agg #[.bool b,.slice ad n c]) (sg b N):=by
  have:=Wc.sg (neg:=b) h1 hp
  exact this
 rw[hz] at hw
 exact⟨b,ad,n,c,ae,m,d,rfl,hw,by rw[xE (Pg hne),<-hd];exact h2⟩
theorem GM {b:Bool} {N:Nat} (h:N=0):sz (sg b N)=0:=by subst h;rw[ga];rfl
theorem GB {b:Bool} {N:Nat} (h:N≠0):sz (sg b N)≠0:=by
 unfold sz sg
 cases b <;> simp <;> (repeat' split) <;> omega
theorem qE {z:Int}:sz z=0↔z=0:=by
 unfold sz;split <;> (try split) <;> simp_all
theorem qB {x:Int} (h:x≠0):decide (x=0)=false:=decide_eq_false h
def av (q:Rat) (k:Nat):Prop:=Lim q.num.natAbs k/\Lim q.den k
theorem Lim.one {k:Nat} (hk:1<=k):Lim 1 k:=Nat.lt_of_lt_of_le (by decide:1<B32^1) (Nat.pow_le_pow_right bi hk)
theorem iH {a b k:Nat} (h:Lim a k):Lim (a/b) k:=h.le (Nat.div_le_self a b)
theorem Gd (b1 b2:Bool) (N M:Nat) (hM:M≠0):sg (b1 !=b2) (N/Nat.gcd N M)=((sg b1 N:Rat)/(sg b2 M:Rat)).num /\(N/Nat.gcd N M≠0->M/Nat.gcd N M=((sg b1 N:Rat)/(sg b2 M:Rat)).den):=by
 have e:((sg b1 N:Rat)/(sg b2 M:Rat))=mkRat (sg (b1 !=b2) N) M:=by
  rw[<-Rat.divInt_eq_div]
  cases b1 <;> cases b2 <;> simp[sg,Rat.divInt_neg',Rat.divInt_ofNat]
 rw[e,Rat.num_mkRat,Rat.den_mkRat,if_neg hM,if_neg hM,dZ,Nat.gcd_comm M N]
 refine⟨?_,fun _=>rfl⟩
 have hg:=Nat.gcd_dvd_left N M
 obtain⟨t,ht⟩:=hg
 generalize Nat.gcd N M=g at*
 subst ht
 by_cases hg0:g=0
 ·subst hg0;simp[sg]
 ·have hgp:0<g:=by omega
  rw[Nat.mul_div_cancel_left t hgp]
  unfold sg
  split
  ·have:(-(((g*t:Nat):Int)))=(g:Int)*(-(t:Int)):=by rw[Int.mul_neg];simp
   rw[this,Int.mul_ediv_cancel_left _ (by omega)]
  ·have:(((g*t:Nat):Int))=(g:Int)*(t:Int):=by simp
   rw[this,Int.mul_ediv_cancel_left _ (by omega)]
theorem mU (z:Int):sg (decide (z<0)) z.natAbs=z:=vL z
theorem BK (b:Bool) (N g:Nat):(sg b N).tdiv (g:Int)=sg b (N/g):=by
 unfold sg;cases b <;> simp
theorem Lv (b:Bool) {N g:Nat} (h:g ∣ N):sg b N/(g:Int)=sg b (N/g):=by
 obtain⟨t,rfl⟩:=h
 by_cases hg0:g=0
 ·subst hg0;simp[sg]
 ·have hgp:0<g:=by omega
  rw[Nat.mul_div_cancel_left t hgp]
  unfold sg
  split
  ·have:(-(((g*t:Nat):Int)))=(g:Int)*(-(t:Int)):=by rw[Int.mul_neg];simp
   rw[this,Int.mul_ediv_cancel_left _ (by omega)]
  ·have:(((g*t:Nat):Int))=(g:Int)*(t:Int):=by simp
   rw[this,Int.mul_ediv_cancel_left _ (by omega)]
theorem Es (a b:Rat):
 sg (decide (a.num*((b.den/Nat.gcd a.den b.den:Nat):Int)+b.num*((a.den/Nat.gcd a.den b.den:Nat):Int)<0)) ((a.num*((b.den/Nat.gcd a.den b.den:Nat):Int)+b.num*((a.den/Nat.gcd a.den b.den:Nat):Int)).natAbs /Nat.gcd (a.num*((b.den/Nat.gcd a.den b.den:Nat):Int)+b.num*((a.den/Nat.gcd a.den b.den:Nat):Int)).natAbs (Nat.gcd a.den b.den))=(a+b).num /\
 (a.den/Nat.gcd a.den b.den)*(b.den/Nat.gcd (a.num*((b.den/Nat.gcd a.den b.den:Nat):Int)+b.num*((a.den/Nat.gcd a.den b.den:Nat):Int)).natAbs (Nat.gcd a.den b.den))=(a+b).den :=by
 have haux:=Rat.add.aux a b (g:=Nat.gcd a.den b.den) (ad:=a.den/Nat.gcd a.den b.den) (bd:=b.den/Nat.gcd a.den b.den) rfl rfl rfl
 dsimp only at haux
 have hg:Nat.gcd a.den b.den≠0:=Nat.gcd_ne_zero_left a.den_nz
 have e1:a.den/Nat.gcd a.den b.den*Nat.gcd a.den b.den=a.den:=Nat.div_mul_cancel (Nat.gcd_dvd_left _ _)
 have e2:b.den/Nat.gcd a.den b.den*Nat.gcd a.den b.den=b.den:=Nat.div_mul_cancel (Nat.gcd_dvd_right _ _)
 have hd2:Nat.gcd a.den b.den ∣ b.den:=Nat.gcd_dvd_right _ _
 have hd0:a.den/Nat.gcd a.den b.den*b.den≠0:=Nat.mul_ne_zero (fun e=>a.den_nz (by rw[<-e1,e,Nat.zero_mul])) b.den_nz
 have key:a+b=mkRat (a.num*((b.den/Nat.gcd a.den b.den:Nat):Int)+b.num*((a.den/Nat.gcd a.den b.den:Nat):Int)) (a.den/Nat.gcd a.den b.den*b.den):=by
  rw[Rat.add_def',<-Rat.mkRat_mul_right hg (n:=a.num*((b.den/Nat.gcd a.den b.den:Nat):Int)+b.num*((a.den/Nat.gcd a.den b.den:Nat):Int))]
  congr 1
  ·rw[Int.add_mul,Int.mul_assoc,Int.mul_assoc,Int.ofNat_mul_ofNat,Int.ofNat_mul_ofNat,e1,e2]
  ·rw[Nat.mul_right_comm,e1]
 generalize a.num*((b.den/Nat.gcd a.den b.den:Nat):Int)+b.num*((a.den/Nat.gcd a.den b.den:Nat):Int)=S at*
 generalize Nat.gcd a.den b.den=g at*
 rw[key,Rat.num_mkRat,Rat.den_mkRat,if_neg hd0,if_neg hd0,Nat.gcd_comm _ S.natAbs,<-haux]
 refine⟨?_,?_⟩
 ·have:=Lv (decide (S<0)) (Nat.gcd_dvd_left S.natAbs g)
  rw[mU] at this
  exact this.symm
 ·rw[Nat.mul_div_assoc _ (Nat.dvd_trans (Nat.gcd_dvd_right S.natAbs g) hd2)]
theorem Fk (a b:Rat):
 sg (decide (a.num<0) !=decide (b.num<0)) (a.num.natAbs/Nat.gcd a.num.natAbs b.den*(b.num.natAbs/Nat.gcd b.num.natAbs a.den))=(a*b).num /\
 a.den/Nat.gcd b.num.natAbs a.den*(b.den/Nat.gcd a.num.natAbs b.den)=(a*b).den :=by
 have e1:(a*b).num =a.num.tdiv (Nat.gcd a.num.natAbs b.den:Nat)*b.num.tdiv (Nat.gcd b.num.natAbs a.den:Nat):=by
  show(Rat.mul a b).num =_
  delta Rat.mul
  simp only [Int.divExact_eq_tdiv]
 have e2:(a*b).den =a.den/Nat.gcd b.num.natAbs a.den*(b.den/Nat.gcd a.num.natAbs b.den):=by
  show(Rat.mul a b).den =_
  delta Rat.mul
  simp only [Nat.divExact_eq_div]
 refine⟨?_,e2.symm⟩
 rw[e1]
 have h1:=BK (decide (a.num<0)) a.num.natAbs (Nat.gcd a.num.natAbs b.den)
 have h2:=BK (decide (b.num<0)) b.num.natAbs (Nat.gcd b.num.natAbs a.den)
 rw[mU] at h1 h2
 rw[h1,h2,<-AC]
 rfl
theorem qw {a:Rat} (h:a≠0):sg (decide (a.num<0)) a.den=(a⁻¹).num /\a.num.natAbs=(a⁻¹).den :=by
 have hn:=Gs h
 rw[Rat.num_inv,Rat.den_inv,if_neg hn]
 refine⟨?_,rfl⟩
 unfold sg
 by_cases hl:a.num<0
 ·rw[if_pos (by simpa using hl),Int.sign_eq_neg_one_of_neg hl];omega
 ·rw[if_neg (by simpa using hl),Int.sign_eq_one_of_pos (by omega)];omega
theorem nZ {z:Int} {d k:Nat} (h1:Lim z.natAbs k) (h2:Lim d k) (hd:d≠0):av (mkRat z d) k:=by
 refine⟨h1.le ?_,h2.le ?_⟩
 ·rw[Rat.num_mkRat,if_neg hd,Int.natAbs_ediv_of_dvd (by rw[Int.ofNat_dvd_left];exact Nat.gcd_dvd_right _ _)]
  exact Nat.div_le_self _ _
 ·rw[Rat.den_mkRat,if_neg hd];exact Nat.div_le_self _ _
theorem av.up {q:Rat} {a:Nat} (h:av q a) (b:Nat) (hl:a<=b):av q b:=⟨h.1.up b hl,h.2.up b hl⟩
theorem av.pos {q:Rat} {a:Nat} (h:av q a):1<=a:=by
 by_cases e:a=0
 ·subst e
  have h2:=h.2
  unfold Lim at h2
  have:=q.den_pos
  rw[Nat.pow_zero] at h2
  omega
 ·omega
theorem bP {a b:Rat} {k l:Nat} (h1:av a k) (h2:av b l):av (a+b) (k+l+1):=by
 rw[Rat.add_def']
 refine nZ ?_ ((h1.2.mul h2.2).up _ (by omega)) (Nat.mul_ne_zero a.den_nz b.den_nz)
 refine ip (a:=k+l) (b:=k+l) ?_ ?_ _ (by omega) (by omega)
 ·rw[Int.natAbs_mul];exact h1.1.mul h2.2
 ·rw[Int.natAbs_mul];exact(h2.1.mul h1.2).up _ (by omega)
theorem gF {a:Rat} {k:Nat} (h:av a k):av (-a) k:=⟨by rw[Rat.neg_num,Int.natAbs_neg];exact h.1,h.2⟩
theorem cD {a b:Rat} {k l:Nat} (h1:av a k) (h2:av b l):av (a-b) (k+l+1):=by
 rw[Rat.sub_eq_add_neg];exact bP h1 (gF h2)
theorem bm {a b:Rat} {k l:Nat} (h1:av a k) (h2:av b l):av (a*b) (k+l):=by
 rw[Rat.mul_def']
 exact nZ (by rw[Int.natAbs_mul];exact h1.1.mul h2.1) (h1.2.mul h2.2) (Nat.mul_ne_zero a.den_nz b.den_nz)
theorem tj {a:Rat} {k:Nat} (h:av a k):av a⁻¹ k:=by
 by_cases h0:a=0
 ·subst h0;rw[Rat.inv_zero];exact h
 ·obtain⟨e1,e2⟩:=qw h0
  exact⟨by rw[<-e1,dZ];exact h.2,by rw[<-e2];exact h.1⟩
theorem dX {a b:Rat} {k l:Nat} (h1:av a k) (h2:av b l):av (a/b) (k+l):=by
 rw[Rat.div_def];exact bm h1 (tj h2)
theorem cK {z:Int} {k:Nat} (h:Lim z.natAbs k) (hk:1<=k):av (z:Rat) k:=⟨h,Lim.one hk⟩
theorem jH {k:Nat} (hk:1<=k):av 0 k:=⟨Nat.lt_of_lt_of_le (by decide:0<B32^1) (Nat.pow_le_pow_right bi hk),Lim.one hk⟩
theorem hZ {a:Rat} {k:Nat} (h:av a k):av a.abs k:=by
 unfold Rat.abs;split
 ·exact h
 ·exact gF h
end
section
theorem Dg.cl {k:IntKind} {b n:Nat} (v:Value):Cl fun w=>Dg w k b v n:=fun _ _ h kp=>Dg.keep h kp
theorem Rq.cl {q:Rat} (v:Value):Cl fun w=>Rq w v q:=fun _ _ h kp=>h.keep kp
theorem Wc.cl {z:Int} (v:Value):Cl fun w=>Wc w v z:=fun _ _ h kp=>h.keep kp
theorem ab:Ty Tryz.prog 33 3 [.bool false,.slice none 0 0,.slice none 0 0]:=⟨⟨_,Tryz.underlying33,rfl⟩,kd,lE⟩
theorem bw:Ty Tryz.prog 31 2 [.bool false,.slice none 0 0]:=⟨⟨_,Tryz.underlying31,rfl⟩,mJ,mF⟩
theorem oK:Ty Tryz.prog 161 2 [.bool false,.slice none 0 0]:=⟨⟨_,Tryz.underlying161,rfl⟩,rB,E6⟩
end
section
def qc (a b:Rat):Int:=ci (a.num*(b.den:Int)) (b.num*(a.den:Int))
theorem Rz.nat {w:World} {s:Value} {d:Nat} (h:Dg w .i64 65536 s d):Rz w (.agg #[.bool false,s]) ((d:Nat):Int):=by
 refine⟨s,?_,by simpa using h⟩
 rw[decide_eq_false (by omega)]
theorem cY {N k:Nat} (h:Lim N k):Lim ((N:Nat):Int).natAbs k:=by rw[Int.natAbs_natCast];exact h
theorem Rz.zero (w:World):Rz w (.agg #[.bool false,.slice none 0 0]) 0:=⟨_,rfl,Dg.zero _ _ _ _ (by unfold maxLen;omega) (fun _=>rfl)⟩
theorem Rz.neg {w:World} {b:Bool} {a:Value} {z:Int} (h:Rz w (.agg #[.bool b,a]) z):b=decide (z<0):=by
 obtain⟨a',h1,h2⟩:=h
 injection h1 with h1
 simp only [Array.mk.injEq,List.cons.injEq,and_true,Value.bool.injEq] at h1
 exact h1.1
def Rr (w:World) (v:Value) (q:Rat) (k:Nat):Prop:=
 ∃b ad n c ae m d z D,v= .agg #[.bool b,.slice ad n c,.slice ae m d]/\Rz w (.agg #[.bool b,.slice ad n c]) z/\Dg w .i64 65536 (.slice ae m d) D/\0<D/\q=mkRat z D/\Lim z.natAbs k/\Lim D k
def cf (w:World) (q:Rat) (k:Nat) (e:Ending) (w':World):Prop:=∃v,e= .returned v/\Rr w' v q k/\Below w.heap.size w w'
theorem Rr.shape {w:World} {v:Value} {q:Rat} {k:Nat} (h:Rr w v q k):∃b ad n c ae m d z D,v= .agg #[.bool b,.slice ad n c,.slice ae m d]/\Rz w (.agg #[.bool b,.slice ad n c]) z/\Dg w .i64 65536 (.slice ae m d) D/\0<D/\q=mkRat z D/\Lim z.natAbs k/\Lim D k:=h
theorem Rr.form {w:World} {v:Value} {q:Rat} {k:Nat} (h:Rr w v q k):∃b ad n c ae m d,v= .agg #[.bool b,.slice ad n c,.slice ae m d]:=by
 obtain⟨b,ad,n,c,ae,m,d,z,D,h1,_⟩:=h
 exact⟨b,ad,n,c,ae,m,d,h1⟩
theorem Rr.below {w w':World} {v:Value} {q:Rat} {k:Nat} (h:Rr w v q k) (hb:Below w.heap.size w w'):Rr w' v q k:=by
 obtain⟨b,ad,n,c,ae,m,d,z,D,h1,h2,h3,h4⟩:=h
 exact⟨b,ad,n,c,ae,m,d,z,D,h1,h2.below hb,h3.below hb,h4⟩
def Ir (q:Rat) (k:Nat):World->Value->Prop:=fun w v=>Rr w v q k
instance mbr {q:Rat} {k:Nat}:MbI (Ir q k):=⟨fun _ _ _ h hb=>Rr.below h hb⟩
theorem Rr.fo {w:World} {v:Value} {q:Rat} {k:Nat} (h:Rr w v q k):∃r:R7,v=r.v:=by
 obtain⟨b,x,n,c,y,m,d,e⟩:=h.form
 exact⟨⟨b,x,n,c,y,m,d⟩,e⟩
instance mby {z:Int}:MbI (fun w v=>Rz w v z):=⟨fun _ _ _ h hb=>Rz.below h hb⟩
theorem Rr.keep {w w':World} {v:Value} {q:Rat} {k:Nat} (h:Rr w v q k) (kp:eO w w'):Rr w' v q k:=by
 obtain⟨b,ad,n,c,ae,m,d,z,D,h1,h2,h3,h4⟩:=h
 exact⟨b,ad,n,c,ae,m,d,z,D,h1,h2.keep kp,h3.keep kp,h4⟩
theorem Rr.mk {w:World} {b:Bool} {ad ae:Option Addr} {n c m d:Nat} {z:Int} {D:Nat} {q:Rat} {k:Nat} (h1:Rz w (.agg #[.bool b,.slice ad n c]) z) (h2:Dg w .i64 65536 (.slice ae m d) D) (hD:0<D) (hq:q=mkRat z D) (l1:Lim z.natAbs k) (l2:Lim D k):
 Rr w (.agg #[.bool b,.slice ad n c,.slice ae m d]) q k:=⟨b,ad,n,c,ae,m,d,z,D,rfl,h1,h2,hD,hq,l1,l2⟩
theorem Rr.up {w:World} {v:Value} {q:Rat} {k:Nat} (h:Rr w v q k) (j:Nat) (hj:k<=j):Rr w v q j:=by
 obtain⟨b,ad,n,c,ae,m,d,z,D,h1,h2,h3,h4,h5,h6,h7⟩:=h
 exact⟨b,ad,n,c,ae,m,d,z,D,h1,h2,h3,h4,h5,h6.up j hj,h7.up j hj⟩
theorem Rr.cast {w:World} {v:Value} {q q':Rat} {k:Nat} (h:Rr w v q k) (e:q=q'):Rr w v q' k:=by subst e;exact h
theorem ym (w:World):∃v w',(Instr.buildSlice 41 1 #[(0,iv 1)]).run Tryz.prog w= .ok v w'/\Below w.heap.size w w'/\Dg w' .i64 65536 v 1:=by
 refine⟨.slice (some ⟨w.heap.size,0,none⟩) 1 1,w.alloc (.cells #[iv 1] 3),?_,(Below.refl _ _).alloc (Nat.le_refl _) _,?_⟩
 ·have hs:=bh (P:=Tryz.prog) (T:=3) (n:=1) (by kernel_rfl) w
  simp[Instr.buildSlice,go_sem,hs,Instr.fill,Value.cells,newRow]
 ·have e:dg 65536 1=[1]:=by decide+kernel
  unfold Dg
  rw[e]
  refine⟨some ⟨w.heap.size,0,none⟩,1,rfl,⟨fun i hi=>?_⟩,by simp,by unfold maxLen;omega,by simp,fun h=>by cases h⟩
  have h0:i=0:=by simp at hi;omega
  subst h0
  refine⟨w.heap.size,0,rfl,by simp,?_⟩
  rw[cell_of_row _ w.heap.size 0 #[iv 1] 3 (0,0) (heap_alloc_new w _)]
  rfl
theorem O1 (z y:Int) (h:y≠0):mkRat (sg (decide (z<0) !=decide (y<0)) z.natAbs) y.natAbs=(z:Rat)/(y:Rat):=by
 rw[<-Rat.divInt_eq_div]
 have hz:z=sg (decide (z<0)) z.natAbs:=(vL z).symm
 generalize hb:decide (z<0)=b at*
 rcases Int.lt_or_gt_of_ne h with h'|h'
 ·obtain⟨m,rfl⟩:∃m:Nat,y= -(m:Int):=⟨y.natAbs,by omega⟩
  rw[decide_eq_true h',Rat.divInt_neg',Rat.divInt_ofNat,Int.natAbs_neg,Int.natAbs_natCast]
  congr 1
  generalize z.natAbs=N at*
  subst hz
  cases b <;> simp[sg]
 ·obtain⟨m,rfl⟩:∃m:Nat,y=(m:Int):=⟨y.natAbs,by omega⟩
  rw[decide_eq_false (by omega),Rat.divInt_ofNat,Int.natAbs_natCast]
  congr 1
  generalize z.natAbs=N at*
  subst hz
  cases b <;> simp[sg]
theorem Ly {z1 z2:Int} {d1 d2:Nat} (h1:0<d1) (h2:0<d2):((z1*(d2:Int)+z2*(d1:Int):Int):Rat)/(((d1:Int)*(d2:Int):Int):Rat)=mkRat z1 d1+mkRat z2 d2:=by
 rw[Rat.mkRat_add_mkRat _ _ (by omega) (by omega),<-Rat.divInt_eq_div,Int.ofNat_mul_ofNat,Rat.divInt_ofNat]
theorem M2 {z1 z2:Int} {d1 d2:Nat} (h1:0<d1) (h2:0<d2):((z1*z2:Int):Rat)/(((d1*d2:Nat):Int):Rat)=mkRat z1 d1*mkRat z2 d2:=by
 rw[Rat.mkRat_mul_mkRat,<-Rat.divInt_eq_div,Rat.divInt_ofNat]
theorem Ng {z1 z2:Int} {d1 d2:Nat} (h1:0<d1) (h2:0<d2):((z1*(d2:Int):Int):Rat)/(((d1:Int)*z2:Int):Rat)=mkRat z1 d1/mkRat z2 d2:=by
 have e1:mkRat z1 d1=Rat.divInt z1 (d1:Int):=(Rat.divInt_ofNat z1 d1).symm
 have e2:mkRat z2 d2=Rat.divInt z2 (d2:Int):=(Rat.divInt_ofNat z2 d2).symm
 rw[e1,e2,Rat.div_def (Rat.divInt z1 (d1:Int)),Rat.inv_divInt,Rat.divInt_mul_divInt,Rat.divInt_eq_div]
theorem RE {z:Int} {d:Nat} (h:0<d):sz z=sz (mkRat z d).num :=by
 rw[Rat.num_mkRat,if_neg (by omega)]
 have hg:Nat.gcd d z.natAbs ∣ z.natAbs:=Nat.gcd_dvd_right _ _
 have hp:0<Nat.gcd d z.natAbs:=Nat.gcd_pos_of_pos_left _ h
 obtain⟨t,ht⟩:((Nat.gcd d z.natAbs:Nat):Int) ∣ z:=Int.ofNat_dvd_left.2 hg
 generalize Nat.gcd d z.natAbs=g at*
 subst ht
 rw[Int.mul_ediv_cancel_left _ (by omega)]
 unfold sz
 rcases Int.lt_trichotomy t 0 with h1|h1|h1
 ·have:=Int.mul_neg_of_pos_of_neg (show(0:Int)<g by omega) h1
  rw[if_neg (by omega),if_pos this,if_neg (by omega),if_pos h1]
 ·subst h1;simp
 ·have:=Int.mul_pos (show(0:Int)<g by omega) h1
  rw[if_neg (by omega),if_neg (by omega),if_neg (by omega),if_neg (by omega)]
theorem yQ {z1 z2:Int} {d1 d2:Nat} (h1:0<d1) (h2:0<d2):z1*(d2:Int)<z2*(d1:Int)↔mkRat z1 d1<mkRat z2 d2:=by
 have e1:=Rat.mkRat_eq_div z1 d1
 have e2:=Rat.mkRat_eq_div z2 d2
 have p1:(0:Rat)<(d1:Rat):=Rat.natCast_pos.2 h1
 have p2:(0:Rat)<(d2:Rat):=Rat.natCast_pos.2 h2
 rw[e1,e2,Rat.div_lt_iff p1,<-Rat.intCast_lt_intCast,Rat.intCast_mul,Rat.intCast_mul,Rat.intCast_natCast,Rat.intCast_natCast]
 rw[show(z2:Rat)/(d2:Rat)*(d1:Rat)=(z2*(d1:Rat))/(d2:Rat) by rw[Rat.div_def,Rat.div_def,Rat.mul_assoc,Rat.mul_assoc,Rat.mul_comm (d2:Rat)⁻¹]]
 rw[Rat.lt_div_iff p2]
theorem IW {z1 z2:Int} {d1 d2:Nat} (h1:0<d1) (h2:0<d2):ci (z1*(d2:Int)) (z2*(d1:Int))=qc (mkRat z1 d1) (mkRat z2 d2):=by
 have a:=yQ (z1:=z1) (z2:=z2) h1 h2
 have b:=yQ (z1:=z2) (z2:=z1) h2 h1
 have c:=Rat.lt_iff (mkRat z1 d1) (mkRat z2 d2)
 have d:=Rat.lt_iff (mkRat z2 d2) (mkRat z1 d1)
 unfold qc ci
 simp only [<-c,<-d,a,b]
end
section
theorem Rr.cl {q:Rat} {k:Nat} (v:Value):Cl fun w=>Rr w v q k:=fun _ _ h kp=>h.keep kp
theorem Rz.cl {z:Int} (v:Value):Cl fun w=>Rz w v z:=fun _ _ h kp=>h.keep kp
theorem ag:Ty Tryz.prog 45 3 [.bool false,.slice none 0 0,.slice none 0 0]:=⟨⟨_,Tryz.underlying45,rfl⟩,mh,sC⟩
theorem bg:Ty Tryz.prog 43 2 [.bool false,.slice none 0 0]:=⟨⟨_,Tryz.underlying43,rfl⟩,oP,nS⟩
end
end
end Go.Proofs.YtgdpkknapcgcbaaGreatDoor
