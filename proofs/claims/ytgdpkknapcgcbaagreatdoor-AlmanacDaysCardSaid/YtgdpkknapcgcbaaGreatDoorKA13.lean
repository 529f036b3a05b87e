import Derived.Test.YtgdpkknapcgcbaaGreatDoorKA12
import Derived.Deep.RegionHeld3
namespace Go.Proofs.YtgdpkknapcgcbaaGreatDoor
open Go.RowKit
set_option maxRecDepth 100000
set_option linter.unusedVariables false
set_option maxHeartbeats 8000000
section
section
theorem FK {w:World} {a:Addr} {v:Value} (_h:w.cell? a=some v):Below w.heap.size w w.drew:=(Below.refl _ _).drew
def Rz (w:World) (v:Value) (z:Int):Prop:=∃a,v= .agg #[.bool (decide (z<0)),a]/\Dg w .i64 65536 a z.natAbs
theorem Rz.below {w w':World} {v:Value} {z:Int} (h:Rz w v z) (hb:Below w.heap.size w w'):Rz w' v z:=by
 obtain⟨a,h1,h2⟩:=h
 exact⟨a,h1,h2.below hb⟩
theorem dr.rz {w w':World} (k:dr w w') {v:Value} {z:Int} (h:Rz w v z):Rz w' v z:=by
 obtain⟨a,h1,h2⟩:=h
 exact⟨a,h1,k.dg h2⟩
theorem Rz.shape {w:World} {v:Value} {z:Int} (h:Rz w v z):∃b ad n cap,v= .agg #[.bool b,.slice ad n cap]/\Hid (b=decide (z<0))/\Dg w .i64 65536 (.slice ad n cap) z.natAbs:=by
 obtain⟨a,rfl,h2⟩:=h
 have h3:=h2
 obtain⟨ad,cap,rfl,_⟩:=h3
 exact⟨_,ad,_,cap,rfl,Lib.hid rfl,h2⟩
theorem Rz.form {w:World} {v:Value} {z:Int} (h:Rz w v z):∃(b:Bool) (ad:Option Addr) (n cap:Nat),v= .agg #[.bool b,.slice ad n cap]:=by
 obtain⟨b,ad,n,cap,h1,_⟩:=h.shape
 exact⟨b,ad,n,cap,h1⟩
def iB (w:World) (z:Int) (e:Ending) (w':World):Prop:=∃v,e= .returned v/\Rz w' v z/\Below w.heap.size w w'
theorem Rz.sg {w:World} {neg:Bool} {v:Value} {N:Nat} (h:Dg w .i64 65536 v N):Rz w (.agg #[.bool (neg && decide (0<N)),v]) (sg neg N):=by
 refine⟨v,?_,by rw[cV];exact h⟩
 by_cases h0:N=0
 ·subst h0;rw[eu];simp
 ·rw[BN neg (by omega),show decide (0<N)=true from by simp;omega,Bool.and_true]
theorem Eo (v:Value) (N:Nat) (w:World) (h:Dg w .i64 65536 v N):CP 135 #[v] w fun e w'=>e= .returned v/\w'=w:=by
 obtain⟨ad,cap,rfl,rd,hc,hm,hl,hn⟩:=h
 have ho:=bM (b:=65536) (by omega) N
 refine(hC 65536 (by omega) ad _ cap (dg 65536 N) w rfl rd ho (by omega) hc hn).mono ?_
 rintro e w' ⟨rfl,hw⟩
 exact⟨by rw[bJ (by omega)];rfl,hw⟩
theorem dP (neg:Bool) (v:Value) (N:Nat) (w:World) (h:Dg w .i64 65536 v N):
 CP 67 #[.bool neg,v] w (iB w (sg neg N)):=by
 have hsh:∃ad n cap,v= .slice ad n cap/\Hid (n=dl 65536 N)/\n<=1099511627776:=by
  obtain⟨ad,cap,h1,_,_,_,hl,_⟩:=h
  exact⟨ad,_,cap,h1,Lib.hid rfl,hl⟩
 obtain⟨ad,n,cap,rfl,HN,hl⟩:=hsh
 have hb0:=(Below.refl w.heap.size w).alloc (Nat.le_refl _) (.cells #[.bool false,.slice none 0 0] 43)
 have ni9:cG (w.alloc (.cells #[.bool false,.slice none 0 0] 43)) w.heap.size:=by
  have k0:=cG.box (w:=w) (l:=[.bool false,.slice none 0 0]) (T:=43) (by simp[bU,dC])
  exact k0
 have h':=h.below hb0
 have KT:=Lib.hid (Eo _ N _ h')
 have hd:decide (0<(n:Int))=decide (0<N):=by
  by_cases h0:N=0
  ·subst h0;rw[HN.out,eo];rfl
  ·have:=dL (b:=65536) (by omega) (show 0<N by omega)
   rw[<-HN.out] at this;simp;omega
 have hp:0<N\/N=0:=by omega
 clear ni9
 cases neg
 ·have bel9:Below w.heap.size w (w.alloc (.cells #[.bool false,.slice ad n cap] 43)):=(Below.refl _ _).alloc (Nat.le_refl _) _
  have hz:Rz (w.alloc (.cells #[.bool false,.slice ad n cap] 43)) (.agg #[.bool false,.slice ad n cap]) (sg false N):=by
   exact Rz.sg (neg:=false) (h.below bel9)
  have HZ:=Lib.hid hz
  clear hz hd hp
  go_enter Tryz.func67,Tryz.ntmps67
  go_wp2_with fail
  refine KT.out.mono ?_
  rintro e wx ⟨rfl,hw⟩
  have hw:=hw.symm;subst hw
  go_wp2
  exact bodyPost_ret (by simp[results,Tryz.results67,go_sem]) rfl ⟨_,rfl,HZ.out,bel9⟩
 ·rcases hp with hp|hp
  ·have hn:0<n:=by have:=dL (b:=65536) (by omega) hp;rw[<-HN.out] at this;exact this
   have bel9:Below w.heap.size w (w.alloc (.cells #[.bool true,.slice ad n cap] 43)):=(Below.refl _ _).alloc (Nat.le_refl _) _
   have hz:Rz (w.alloc (.cells #[.bool true,.slice ad n cap] 43)) (.agg #[.bool true,.slice ad n cap]) (sg true N):=by
    have:=Rz.sg (neg:=true) (h.below bel9)
    simp[hp] at this
    exact this
   have HZ:=Lib.hid hz
   clear hz hd hp
   go_enter Tryz.func67,Tryz.ntmps67
   go_wp2_with fail
   refine KT.out.mono ?_
   rintro e wx ⟨rfl,hw⟩
   have hw:=hw.symm;subst hw
   go_wp2
   exact bodyPost_ret (by simp[results,Tryz.results67,go_sem]) rfl ⟨_,rfl,HZ.out,bel9⟩
  ·have hn:n=0:=by rw[HN.out,hp];exact eo _
   subst hn
   have bel9:Below w.heap.size w (w.alloc (.cells #[.bool false,.slice ad 0 cap] 43)):=(Below.refl _ _).alloc (Nat.le_refl _) _
   have hz:Rz (w.alloc (.cells #[.bool false,.slice ad 0 cap] 43)) (.agg #[.bool false,.slice ad 0 cap]) (sg true N):=by
    have:=Rz.sg (neg:=true) (h.below bel9)
    rw[show decide (0<N)=false from by rw[hp];rfl] at this
    exact this
   have HZ:=Lib.hid hz
   clear hz hd hp
   go_enter Tryz.func67,Tryz.ntmps67
   go_wp2_with fail
   refine KT.out.mono ?_
   rintro e wx ⟨rfl,hw⟩
   have hw:=hw.symm;subst hw
   go_wp2
   exact bodyPost_ret (by simp[results,Tryz.results67,go_sem]) rfl ⟨_,rfl,HZ.out,bel9⟩
end
section
theorem Il {b:Bool} {z:Int} (h:b=decide (z<0)):sg (!b) z.natAbs= -z:=by
 subst h;unfold sg
 by_cases h:z<0
 ·simp[h];omega
 ·simp[h];omega
theorem Rz.len {w:World} {ad:Option Addr} {n cap N:Nat} (h:Dg w .i64 65536 (.slice ad n cap) N):n=dl 65536 N:=by
 obtain⟨_,_,h1,_⟩:=h
 injection h1
theorem iV (v1:Value) (z1:Int) (w:World) (h1:Rz w v1 z1):
 CP 138 #[v1] w (iB w (-z1)):=by
 obtain⟨neg1,ad1,n1,cap1,rfl,hn1,hN1⟩:=h1.shape
 have hb0:=((Below.refl w.heap.size w).alloc (Nat.le_refl _) (.cells #[.bool neg1,.slice ad1 n1 cap1] 43)).alloc (by first|(simp;done)|(simp;omega)|omega) (.cells #[.bool false,.slice none 0 0] 43)
 have ni9:cG ((w.alloc (.cells #[.bool neg1,.slice ad1 n1 cap1] 43)).alloc (.cells #[.bool false,.slice none 0 0] 43)) (w.heap.size+1):=by
  have k0:=cG.box (w:=(w.alloc (.cells #[.bool neg1,.slice ad1 n1 cap1] 43))) (l:=[.bool false,.slice none 0 0]) (T:=43) (by simp[bU,dC])
  have e0:(w.alloc (.cells #[.bool neg1,.slice ad1 n1 cap1] 43)).heap.size =(w.heap.size+1):=by simp
  rw[e0] at k0
  exact k0
 have hN1':=hN1.below hb0
 have ES:=Lib.hid (Il hn1.out)
 go_enter Tryz.func138,Tryz.ntmps138
 go_wp2_with fail
 have kc:=dP (!neg1) _ _ _ hN1'
 rw[ES.out] at kc
 refine kc.mono ?_
 rintro e w1 ⟨v9,rfl,h9,bb⟩
 clear kc
 replace hN1':=hN1'.below bb
 have bel:=bb
 clear bb
 obtain⟨b9,ad9,n9,cap9,rfl⟩:=h9.form
 obtain⟨hc,hf⟩:=fX bel
 obtain⟨bel9,kp⟩:=jj hb0 (by first|(simp;done)|(simp;omega)|omega) (by first|(simp;done)|(simp;omega)|omega) ni9 bel (.bool b9) (.slice ad9 n9 cap9) (bU _)
 go_wp2
 exact bodyPost_ret (by simp[results,Tryz.results138,go_sem,hc]) rfl ⟨_,rfl,kp.rz h9,bel9⟩
theorem hJ (v1:Value) (z1:Int) (w:World) (h1:Rz w v1 z1):
 CP 136 #[v1] w (ic w (sz z1)):=by
 obtain⟨neg1,ad1,n1,cap1,rfl,hn1,hN1⟩:=h1.shape
 have hb0:=(Below.refl w.heap.size w).alloc (Nat.le_refl _) (.cells #[.bool neg1,.slice ad1 n1 cap1] 43)
 have HL:=Lib.hid (Rz.len hN1)
 by_cases h0:z1=0
 ·have e0:n1=0:=by rw[HL.out,h0];exact eo _
  rw[show sz z1=0 from by rw[h0];rfl]
  clear h0 HL
  subst e0
  go_enter Tryz.func136,Tryz.ntmps136
  go_wp2
  go_ret
  exact⟨rfl,hb0⟩
 ·have hp:0<n1:=by have:=dL (b:=65536) (n:=z1.natAbs) (by omega) (by omega);rw[HL.out];exact this
  have hp0:((n1:Int) == 0)=false:=by simp;omega
  by_cases hlt:z1<0
  ·obtain rfl:neg1=true:=by rw[hn1.out];simp;omega
   rw[show sz z1= -1 from by unfold sz;rw[if_neg h0,if_pos hlt]]
   clear h0 hlt HL hn1
   go_enter Tryz.func136,Tryz.ntmps136
   go_wp2
   go_ret
   exact⟨rfl,hb0⟩
  ·obtain rfl:neg1=false:=by rw[hn1.out];simp;omega
   rw[show sz z1=1 from by unfold sz;rw[if_neg h0,if_neg hlt]]
   clear h0 hlt HL hn1
   go_enter Tryz.func136,Tryz.ntmps136
   go_wp2
   go_ret
   exact⟨rfl,hb0⟩
end
section
end
section
theorem IM (x y:Int):sz (x+ -y)=ci x y:=by
 unfold sz ci
 split <;> (try split) <;> (try split) <;> (try split) <;> omega
end
section
def Lw (w:World) (N:Nat) (n o i:Value) (wr:World):Prop:=
 ∃k m:Nat,k<=4/\k<=dl 65536 N/\i= .int .i64 k/\n= .int .i64 m/\m=N/65536^k/\Acc wr .i64 3 w.heap.size o ((dg 65536 N).take k)/\Below w.heap.size w wr
theorem F9 {N k:Nat} (h:0<N/65536^k):k<dl 65536 N:=by
 by_cases hk:k<dl 65536 N
 ·exact hk
 ·exfalso
  have h1:=iA (b:=65536) (by omega) N
  have h2:(65536:Nat)^dl 65536 N<=65536^k:=Nat.pow_le_pow_right (by omega) (by omega)
  rw[Nat.div_eq_of_lt (by omega)] at h
  omega
theorem Hu {N k:Nat} (h:N/65536^k=0):(dg 65536 N).take k=dg 65536 N:=by
 have h1:N<65536^k:=by
  by_cases hh:N<65536^k
  ·exact hh
  ·have:=Nat.div_pos (Nat.le_of_not_lt hh) (Nat.pow_pos (n:=k) (show 0<65536 by omega));omega
 exact List.take_of_length_le (eL (by omega) h1)
theorem Ha {N:Nat} (h:N<18446744073709551616):N/65536^4=0:=Nat.div_eq_of_lt (Nat.lt_of_lt_of_le h (by decide))
theorem ye (N:Nat) (w:World) (hN:N<9223372036854775808):
 CP 239 #[.int .i64 N] w (gT w N):=by
 obtain⟨i0,hi,hz0,hz1,hz2⟩:=info_parts Tryz.info3
 have HN:=Lib.hid hN
 have hd4:dl 65536 N<=1099511627776:=Nat.le_trans (eL (k:=4) (by omega) (Nat.lt_of_lt_of_le hN (by decide))) (by omega)
 go_enter Tryz.func239,Tryz.ntmps239
 go_wp2
 go_loopw [0,3,4] (fun n o i wr=>Lw w N n o i wr) (fun _ _ i _=>4-(intOf i).toNat)
 case atStart=>exact⟨0,N,by omega,by omega,rfl,rfl,by simp,Acc.empty w .i64 3 w.heap.size (Nat.le_refl _),(Below.refl _ _).alloc (Nat.le_refl _) _⟩
 case round=>
  obtain⟨k,m,hk,hkd,rfl,rfl,hm,hacc,hbe⟩:=hrel
  have HM:=Lib.hid hm
  have hmb:m<9223372036854775808:=by rw[hm];exact Nat.lt_of_le_of_lt (Nat.div_le_self _ _) HN.out
  clear hm
  by_cases hc:k<4/\0<m
  ·obtain⟨h4,hp⟩:=hc
   have hmore:=F9 (N:=N) (k:=k) (by rw[<-HM.out];exact hp)
   have HT:=Lib.hid (j9 (xs:=dg 65536 N) (k:=k) hmore)
   have HL:=Lib.hid (yz (b:=65536) (by omega) N k)
   have hlen:((dg 65536 N).take k).length <=2199023255552:=by simp;omega
   have HD:=Lib.hid (show m/65536=N/65536^(k+1) from by rw[HM.out,Nat.div_div_eq_div_mul,Nat.pow_succ])
   go_wp2_with (at_builtin;refine fB _ rfl _ _ 41 rfl .i64 3 i0 8 Tryz.underlying41 hi hz0 hz1 hz2 (by decide) w.heap.size _ _ hacc rfl _ (m%65536) (by omega) rfl hlen hbe.size ?_)
   intro v' w' hacc2 hbel2
   go_wp2
   go_roundw
   case rel=>exact⟨k+1,m/65536,by omega,hmore,by go_num,by go_num,HD.out,by rw[HT.out,HL.out,<-HM.out];exact hacc2,hbe.trans hbel2⟩
   case measure=>simp[intOf];omega
  ·have hz:m=0:=by
    by_cases h4:k<4
    ·omega
    ·obtain rfl:k=4:=by omega
     rw[HM.out];exact Ha (by have:=HN.out;omega)
   have HZ:=Lib.hid hz
   have hend:gT w N (.returned _) _:=⟨_,rfl,(by rw[Hu (by rw[<-HM.out];exact hz)] at hacc;exact hacc.sq (by rw[aq];exact hd4)),hbe⟩
   have HE:=Lib.hid hend
   clear hz hend hacc
   have hz1:¬0<m:=by have:=HZ.out;omega
   by_cases h4:k<4
   all_goals
    go_wp2
    go_ret
    exact HE.out
end
section
theorem rQ (n:Int) (w:World) (h0: -9223372036854775808<n) (h1:n<=9223372036854775807):
 CP 198 #[.int .i64 n] w (iB w n):=by
 have hb0:=(Below.refl w.heap.size w).alloc (Nat.le_refl _) (.cells #[.bool false,.slice none 0 0] 43)
 have ni9:cG (w.alloc (.cells #[.bool false,.slice none 0 0] 43)) w.heap.size:=by
  have k0:=cG.box (w:=w) (l:=[.bool false,.slice none 0 0]) (T:=43) (by simp[bU,dC])
  exact k0
 by_cases hn:n<0
 ·obtain⟨m,hm⟩:∃m:Nat,n= -(m:Int):=⟨(-n).toNat,by omega⟩
  have em: -n=(m:Int):=by omega
  have hm2:m<9223372036854775808:=by omega
  have ES:=Lib.hid (show sg true m=n from by rw[hm];rfl)
  have EM:=Lib.hid em
  clear hm em
  go_enter Tryz.func198,Tryz.ntmps198
  go_wp2_with fail
  rw[EM.out]
  refine(ye m _ hm2).mono ?_
  rintro e w1 ⟨v3,rfl,d3,bb⟩
  have bel:=bb
  clear bb
  go_wp2_with fail
  have kc:=dP true _ _ _ d3
  rw[ES.out] at kc
  refine kc.mono ?_
  rintro e w2 ⟨v9,rfl,h9,bb⟩
  clear kc
  replace d3:=d3.below bb
  replace bel:=aA bel bb
  clear bb
  obtain⟨b9,ad9,n9,cap9,rfl⟩:=h9.form
  obtain⟨hc,hf⟩:=fX bel
  obtain⟨bel9,kp⟩:=jj hb0 (by first|(simp;done)|(simp;omega)|omega) (by first|(simp;done)|(simp;omega)|omega) ni9 bel (.bool b9) (.slice ad9 n9 cap9) (bU _)
  go_wp2
  exact bodyPost_ret (by simp[results,Tryz.results198,go_sem,hc]) rfl ⟨_,rfl,kp.rz h9,bel9⟩
 ·obtain⟨m,rfl⟩:∃m:Nat,n=(m:Int):=⟨n.toNat,by omega⟩
  have hm2:m<9223372036854775808:=by omega
  have ES:=Lib.hid (cL m)
  go_enter Tryz.func198,Tryz.ntmps198
  go_wp2_with fail
  refine(ye m _ hm2).mono ?_
  rintro e w1 ⟨v3,rfl,d3,bb⟩
  have bel:=bb
  clear bb
  go_wp2_with fail
  have kc:=dP false _ _ _ d3
  rw[ES.out] at kc
  refine kc.mono ?_
  rintro e w2 ⟨v9,rfl,h9,bb⟩
  clear kc
  replace d3:=d3.below bb
  replace bel:=aA bel bb
  clear bb
  obtain⟨b9,ad9,n9,cap9,rfl⟩:=h9.form
  obtain⟨hc,hf⟩:=fX bel
  obtain⟨bel9,kp⟩:=jj hb0 (by first|(simp;done)|(simp;omega)|omega) (by first|(simp;done)|(simp;omega)|omega) ni9 bel (.bool b9) (.slice ad9 n9 cap9) (bU _)
  go_wp2
  exact bodyPost_ret (by simp[results,Tryz.results198,go_sem,hc]) rfl ⟨_,rfl,kp.rz h9,bel9⟩
end
end
structure InX (w:World) (a:Option Addr) (n c:Nat) (xs:List Nat):Prop where
 len:n=xs.length
 rd:Rd w .u32 a xs
 ok:okb B32 xs
 cap:xs.length<=c
 max:c<=maxLen
 nil:a=none->c=0
theorem InX.below {w w':World} {a:Option Addr} {n c:Nat} {xs:List Nat} (h:InX w a n c xs) (hb:Below w.heap.size w w'):InX w' a n c xs:=
 ⟨h.len,h.rd.below hb,h.ok,h.cap,h.max,h.nil⟩
def iz (neg:Bool) (xs:List Nat) (m:Nat):Int:=sg neg (vl B32 (xs.take m))
theorem Lz (a:Option Addr) (n c m:Nat) (xs:List Nat) (w:World) (h:InX w a n c xs) (hm:m<=1000):
 CP 234 #[.slice a n c,.int .i64 m] w (I4 w (xs.take m)):=
 JU a n c xs m w h.len h.rd h.cap h.max h.nil hm
theorem vA (neg:Bool) (a:Option Addr) (n c m:Nat) (xs:List Nat) (w:World) (h:InX w a n c xs) (hm:m<=1000):
 CP 183 #[.agg #[.bool neg,.slice a n c],.int .i64 m] w (iB w (iz neg xs m)):=by
 have hb0:=((Below.refl w.heap.size w).alloc (Nat.le_refl _) (.cells #[.bool neg,.slice a n c] 161)).alloc (by first|(simp;done)|(simp;omega)|omega) (.cells #[.bool false,.slice none 0 0] 43)
 have ni9:cG ((w.alloc (.cells #[.bool neg,.slice a n c] 161)).alloc (.cells #[.bool false,.slice none 0 0] 43)) (w.heap.size+1):=by
  have k0:=cG.box (w:=(w.alloc (.cells #[.bool neg,.slice a n c] 161))) (l:=[.bool false,.slice none 0 0]) (T:=43) (by simp[bU,dC])
  have e0:(w.alloc (.cells #[.bool neg,.slice a n c] 161)).heap.size =(w.heap.size+1):=by simp
  rw[e0] at k0
  exact k0
 have h':=h.below hb0
 have hne:w.heap.size+1≠w.heap.size:=by omega
 have ok:=Lib.hid (iT h.ok m)
 have lx:(xs.take m).length <=1073741824:=by simp;omega
 have s00:(w.alloc (.cells #[.bool neg,.slice a n c] 161)).cell? ⟨w.heap.size,0,none⟩=some (.bool neg):=by simp
 replace s00:=(World.cell?_alloc_old (w.alloc (.cells #[.bool neg,.slice a n c] 161)) (.cells #[.bool false,.slice none 0 0] 43) ⟨w.heap.size,0,none⟩ (by first|(simp;done)|(simp;omega)|omega)).trans s00
 have s01:(w.alloc (.cells #[.bool neg,.slice a n c] 161)).cell? ⟨w.heap.size,1,none⟩=some (.slice a n c):=by simp
 replace s01:=(World.cell?_alloc_old (w.alloc (.cells #[.bool neg,.slice a n c] 161)) (.cells #[.bool false,.slice none 0 0] 43) ⟨w.heap.size,1,none⟩ (by first|(simp;done)|(simp;omega)|omega)).trans s01
 go_enter Tryz.func183,Tryz.ntmps183
 go_wp2_with fail
 have bd:=FK s00
 replace h':=h'.below bd
 replace s00:=(bd.cell (p:=⟨w.heap.size,0,none⟩) (ia s00)).trans s00
 replace s01:=(bd.cell (p:=⟨w.heap.size,1,none⟩) (ia s01)).trans s01
 have bel:=bd
 clear bd
 go_region_held3 (fun w'=>w'.cell? ⟨w.heap.size,0,none⟩=some (.bool neg)/\w'.cell? ⟨w.heap.size,1,none⟩=some (.slice a n c)) (first|exact⟨s00,s01⟩|go_keep)
  (first
  |(go_at_call 234;refine(Lz _ _ _ m xs _ h' hm).mono ?_;rintro e w1 ⟨v3,rfl,d3,bb⟩;replace h':=h'.below bb;replace s00:=(bb.cell (p:=⟨w.heap.size,0,none⟩) (ia s00)).trans s00;replace s01:=(bb.cell (p:=⟨w.heap.size,1,none⟩) (ia s01)).trans s01;replace bel:=aA bel bb;clear bb)
  |(go_at_call 68;refine(sM _ _ _ d3 ok.out lx).mono ?_;rintro e w2 ⟨v4,rfl,d4,bb⟩;replace h':=h'.below bb;replace d3:=d3.below bb;replace s00:=(bb.cell (p:=⟨w.heap.size,0,none⟩) (ia s00)).trans s00;replace s01:=(bb.cell (p:=⟨w.heap.size,1,none⟩) (ia s01)).trans s01;replace bel:=aA bel bb;clear bb)
  |(go_at_call 67;refine(dP _ _ _ _ d4).mono ?_;rintro e w3 ⟨v9,rfl,h9,bb⟩;replace h':=h'.below bb;replace d3:=d3.below bb;replace d4:=d4.below bb;replace s00:=(bb.cell (p:=⟨w.heap.size,0,none⟩) (ia s00)).trans s00;replace s01:=(bb.cell (p:=⟨w.heap.size,1,none⟩) (ia s01)).trans s01;replace bel:=aA bel bb;clear bb;obtain⟨b9,ad9,n9,cap9,rfl⟩:=h9.form;obtain⟨hc,hf⟩:=fX bel))
 obtain⟨bel9,kp⟩:=jj hb0 (by first|(simp;done)|(simp;omega)|omega) (by first|(simp;done)|(simp;omega)|omega) ni9 bel (.bool b9) (.slice ad9 n9 cap9) (bU _)
 go_wp2
 exact bodyPost_ret (by simp[results,Tryz.results183,go_sem,hc]) rfl ⟨_,rfl,kp.rz h9,bel9⟩
section
section
variable {P:Program} {ops:Array Oper} {Q:Exit->Act->World->Prop}
end
theorem Wz.form {w:World} {v:Value} {z:Int} (h:Wz w v z):∃(b:Bool) (ad:Option Addr) (n cap:Nat),v= .agg #[.bool b,.slice ad n cap]:=by
 obtain⟨b,ad,n,cap,_,h1,_⟩:=h.shape
 exact⟨b,ad,n,cap,h1⟩
end
theorem ff {x y:Int} {a b:Nat} (h1:Lim x.natAbs a) (h2:Lim y.natAbs b) (c:Nat) (ha:a<c) (hb:b<c):Lim (x+y).natAbs c:=(h1.add h2 c ha hb).le (Int.natAbs_add_le x y)
theorem iK {x:Int} {a:Nat} (h:Lim x.natAbs a):Lim (-x).natAbs a:=by rw[Int.natAbs_neg];exact h
theorem ch {x y:Int} {a b:Nat} (h1:Lim x.natAbs a) (h2:Lim y.natAbs b):Lim (x*y).natAbs (a+b):=by rw[Int.natAbs_mul];exact h1.mul h2
theorem Dg.form {w:World} {k:IntKind} {b:Nat} {v:Value} {n:Nat} (h:Dg w k b v n):∃ad m c,v= .slice ad m c:=by
 obtain⟨ad,cap,rfl,_⟩:=h
 exact⟨ad,_,cap,rfl⟩
theorem Nt.form {w:World} {v:Value} {n:Nat} (h:Nt w v n):∃ad m c,v= .slice ad m c:=h.shape
theorem Dg.keep {w w':World} {k:IntKind} {b:Nat} {v:Value} {n:Nat} (h:Dg w k b v n) (kp:dr w w'):Dg w' k b v n:=kp.dg h
theorem Wc.keep {w w':World} {v:Value} {z:Int} (h:Wc w v z) (kp:dr w w'):Wc w' v z:=kp.wc h
theorem Rz.keep {w w':World} {v:Value} {z:Int} (h:Rz w v z) (kp:dr w w'):Rz w' v z:=kp.rz h
theorem InX.keep {w w':World} {ad:Option Addr} {n c:Nat} {xs:List Nat} (h:InX w ad n c xs) (kp:dr w w'):InX w' ad n c xs:=by
 exact⟨h.len,kp _ _ _ h.rd,h.ok,h.cap,h.max,h.nil⟩
theorem Wc.abs {w:World} {b:Bool} {a:Value} {z:Int} (h:Wc w (.agg #[.bool b,a]) z):Dg w .u32 B32 a z.natAbs:=by
 obtain⟨a',h1,h2⟩:=h
 injection h1 with h1
 simp only [Array.mk.injEq,List.cons.injEq,and_true] at h1
 obtain⟨_,rfl⟩:=h1
 exact h2
theorem Wc.neg {w:World} {b:Bool} {a:Value} {z:Int} (h:Wc w (.agg #[.bool b,a]) z):b=decide (z<0):=by
 obtain⟨a',h1,h2⟩:=h
 injection h1 with h1
 simp only [Array.mk.injEq,List.cons.injEq,and_true,Value.bool.injEq] at h1
 exact h1.1
theorem Wz.abso {w:World} {b:Bool} {a:Value} {z:Int} (h:Wz w (.agg #[.bool b,a]) z):Nt w a z.natAbs:=by
 obtain⟨b',a',N,h1,h2,h3⟩:=h
 injection h1 with h1
 simp only [Array.mk.injEq,List.cons.injEq,and_true] at h1
 obtain⟨_,rfl⟩:=h1
 rw[h3,cV];exact h2
theorem Rz.abs {w:World} {b:Bool} {a:Value} {z:Int} (h:Rz w (.agg #[.bool b,a]) z):Dg w .i64 65536 a z.natAbs:=by
 obtain⟨a',h1,h2⟩:=h
 injection h1 with h1
 simp only [Array.mk.injEq,List.cons.injEq,and_true] at h1
 obtain⟨_,rfl⟩:=h1
 exact h2
def Wg (w:World) (v:Value) (b:Bool) (N:Nat):Prop:=∃s,v= .agg #[.bool b,s]/\Dg w .u32 B32 s N
theorem Wg.mk {w:World} {s:Value} {b:Bool} {N:Nat} (h:Dg w .u32 B32 s N):Wg w (.agg #[.bool b,s]) b N:=⟨s,rfl,h⟩
theorem Wg.below {w w':World} {v:Value} {b:Bool} {N:Nat} (h:Wg w v b N) (hb:Below w.heap.size w w'):Wg w' v b N:=by
 obtain⟨s,rfl,h⟩:=h;exact⟨s,rfl,h.below hb⟩
theorem Wg.wz {w:World} {v:Value} {b:Bool} {N:Nat} (h:Wg w v b N):Wz w v (sg b N):=by
 obtain⟨s,rfl,h⟩:=h;exact⟨b,s,N,rfl,h.nt,rfl⟩
theorem Wz.mk {w:World} {s:Value} {b:Bool} {N:Nat} (h:Nt w s N):Wz w (.agg #[.bool b,s]) (sg b N):=⟨b,s,N,rfl,h,rfl⟩
theorem Dg.nil (w:World):Dg w .u32 B32 (.slice none 0 0) 0:=Dg.zero _ _ _ _ (by unfold maxLen;omega) (fun _=>rfl)
theorem gQ {N k:Nat} (b:Bool) (h:Lim N k):Lim (sg b N).natAbs k:=by rw[cV];exact h
theorem Gk {n:Int} (h:n.natAbs<18446744073709551616):Lim n.natAbs 2:=Lim.of64 h
theorem sJ (neg:Bool) {xs:List Nat} (h:okb B32 xs) (m:Nat):Lim (iz neg xs m).natAbs m:=by
 unfold iz
 rw[cV]
 exact Lim.of_sq (iT h m) (by simp;omega)
theorem KK {p:Prop} [Decidable p] (h:¬p):decide p=false:=decide_eq_false h
theorem KZ {p:Prop} [Decidable p] (h:p):decide p=true:=decide_eq_true h
theorem ne0 {x:Int} (h:x=0):decide (x≠0)=false:=by subst h;rfl
theorem eq0 {x:Int} (h:x=0):decide (x=0)=true:=by subst h;rfl
theorem GQ {x y:Int} (h:x=y):ci x y=0:=by subst h;unfold ci;split <;> (try split) <;> omega
end Go.Proofs.YtgdpkknapcgcbaaGreatDoor
