import Derived.Test.YtnljadejcfgmaaaGreatDoorKC13
import Derived.Deep.RegionHeld3
namespace Go.Proofs.YtnljadejcfgmaaaGreatDoor
open Go.RowKit
set_option maxRecDepth 100000
set_option linter.unusedVariables false
set_option maxHeartbeats 8000000
section
section
theorem cell_bd {w:World} {a:Addr} {v:Value} (_h:w.cell? a=some v):Below w.heap.size w w.drew:=(Below.refl _ _).drew
def Rz (w:World) (v:Value) (z:Int):Prop:=∃a,v= .agg #[.bool (decide (z<0)),a]∧Dg w .i64 65536 a z.natAbs
theorem Rz.below {w w':World} {v:Value} {z:Int} (h:Rz w v z) (hb:Below w.heap.size w w'):Rz w' v z:=by
 obtain⟨a,h1,h2⟩:=h
 exact⟨a,h1,h2.below hb⟩
theorem Keep.rz {w w':World} (k:Keep w w') {v:Value} {z:Int} (h:Rz w v z):Rz w' v z:=by
 obtain⟨a,h1,h2⟩:=h
 exact⟨a,h1,k.dg h2⟩
theorem Rz.shape {w:World} {v:Value} {z:Int} (h:Rz w v z):∃b ad n cap,v= .agg #[.bool b,.slice ad n cap]∧Hid (b=decide (z<0))∧Dg w .i64 65536 (.slice ad n cap) z.natAbs:=by
 obtain⟨a,rfl,h2⟩:=h
 have h3:=h2
 obtain⟨ad,cap,rfl,_⟩:=h3
 exact⟨_,ad,_,cap,rfl,Lib.hid rfl,h2⟩
theorem Rz.form {w:World} {v:Value} {z:Int} (h:Rz w v z):∃(b:Bool) (ad:Option Addr) (n cap:Nat),v= .agg #[.bool b,.slice ad n cap]:=by
 obtain⟨b,ad,n,cap,h1,_⟩:=h.shape
 exact⟨b,ad,n,cap,h1⟩
def RzPost (w:World) (z:Int) (e:Ending) (w':World):Prop:=∃v,e= .returned v∧Rz w' v z∧Below w.heap.size w w'
theorem Rz.sg {w:World} {neg:Bool} {v:Value} {N:Nat} (h:Dg w .i64 65536 v N):Rz w (.agg #[.bool (neg && decide (0<N)),v]) (sg neg N):=by
 refine⟨v,?_,by rw[sg_natAbs];exact h⟩
 by_cases h0:N=0
 ·subst h0;rw[sg_zero];simp
 ·rw[sg_neg neg (by omega),show decide (0<N)=true from by simp;omega,Bool.and_true]
theorem strim_dg (v:Value) (N:Nat) (w:World) (h:Dg w .i64 65536 v N):Calls Tryz.prog 138 #[v] w fun e w'=>e= .returned v∧w'=w:=by
 obtain⟨ad,cap,rfl,rd,hc,hm,hl,hn⟩:=h
 have ho:=okb_dg (b:=65536) (by omega) N
 refine(strim_any 65536 (by omega) ad _ cap (dg 65536 N) w rfl rd ho (by omega) hc hn).mono ?_
 rintro e w' ⟨rfl,hw⟩
 exact⟨by rw[vl_dg (by omega)];rfl,hw⟩
theorem rmake_any (neg:Bool) (v:Value) (N:Nat) (w:World) (h:Dg w .i64 65536 v N):
 Calls Tryz.prog 71 #[.bool neg,v] w (RzPost w (sg neg N)):=by
 have hsh:∃ad n cap,v= .slice ad n cap∧Hid (n=dl 65536 N)∧n≤1099511627776:=by
  obtain⟨ad,cap,h1,_,_,_,hl,_⟩:=h
  exact⟨ad,_,cap,h1,Lib.hid rfl,hl⟩
 obtain⟨ad,n,cap,rfl,HN,hl⟩:=hsh
 have hb0:=(Below.refl w.heap.size w).alloc (Nat.le_refl _) (.cells #[.bool false,.slice none 0 0] 38)
 have ni9:NoInt (w.alloc (.cells #[.bool false,.slice none 0 0] 38)) w.heap.size:=by
  have k0:=NoInt.box (w:=w) (l:=[.bool false,.slice none 0 0]) (T:=38) (by simp[notInt_bool,notInt_slice])
  exact k0
 have h':=h.below hb0
 have KT:=Lib.hid (strim_dg _ N _ h')
 have hd:decide (0<(n:Int))=decide (0<N):=by
  by_cases h0:N=0
  ·subst h0;rw[HN.out,dl_zero];rfl
  ·have:=dl_pos (b:=65536) (by omega) (show 0<N by omega)
   rw[←HN.out] at this;simp;omega
 have hp:0<N∨N=0:=by omega
 clear ni9
 cases neg
 ·have bel9:Below w.heap.size w (w.alloc (.cells #[.bool false,.slice ad n cap] 38)):=(Below.refl _ _).alloc (Nat.le_refl _) _
  have hz:Rz (w.alloc (.cells #[.bool false,.slice ad n cap] 38)) (.agg #[.bool false,.slice ad n cap]) (sg false N):=by
   exact Rz.sg (neg:=false) (h.below bel9)
  have HZ:=Lib.hid hz
  clear hz hd hp
  go_enter Tryz.func71,Tryz.ntmps71
  go_wp2_with fail
  refine KT.out.mono ?_
  rintro e wx ⟨rfl,hw⟩
  have hw:=hw.symm;subst hw
  go_wp2
  exact bodyPost_ret (by simp[results,Tryz.results71,go_sem]) rfl ⟨_,rfl,HZ.out,bel9⟩
 ·rcases hp with hp|hp
  ·have hn:0<n:=by have:=dl_pos (b:=65536) (by omega) hp;rw[←HN.out] at this;exact this
   have bel9:Below w.heap.size w (w.alloc (.cells #[.bool true,.slice ad n cap] 38)):=(Below.refl _ _).alloc (Nat.le_refl _) _
   have hz:Rz (w.alloc (.cells #[.bool true,.slice ad n cap] 38)) (.agg #[.bool true,.slice ad n cap]) (sg true N):=by
    have:=Rz.sg (neg:=true) (h.below bel9)
    simp[hp] at this
    exact this
   have HZ:=Lib.hid hz
   clear hz hd hp
   go_enter Tryz.func71,Tryz.ntmps71
   go_wp2_with fail
   refine KT.out.mono ?_
   rintro e wx ⟨rfl,hw⟩
   have hw:=hw.symm;subst hw
   go_wp2
   exact bodyPost_ret (by simp[results,Tryz.results71,go_sem]) rfl ⟨_,rfl,HZ.out,bel9⟩
  ·have hn:n=0:=by rw[HN.out,hp];exact dl_zero _
   subst hn
   have bel9:Below w.heap.size w (w.alloc (.cells #[.bool false,.slice ad 0 cap] 38)):=(Below.refl _ _).alloc (Nat.le_refl _) _
   have hz:Rz (w.alloc (.cells #[.bool false,.slice ad 0 cap] 38)) (.agg #[.bool false,.slice ad 0 cap]) (sg true N):=by
    have:=Rz.sg (neg:=true) (h.below bel9)
    rw[show decide (0<N)=false from by rw[hp];rfl] at this
    exact this
   have HZ:=Lib.hid hz
   clear hz hd hp
   go_enter Tryz.func71,Tryz.ntmps71
   go_wp2_with fail
   refine KT.out.mono ?_
   rintro e wx ⟨rfl,hw⟩
   have hw:=hw.symm;subst hw
   go_wp2
   exact bodyPost_ret (by simp[results,Tryz.results71,go_sem]) rfl ⟨_,rfl,HZ.out,bel9⟩
end
section
theorem sg_not {b:Bool} {z:Int} (h:b=decide (z<0)):sg (!b) z.natAbs= -z:=by
 subst h;unfold sg
 by_cases h:z<0
 ·simp[h];omega
 ·simp[h];omega
theorem sg_is {b:Bool} {z:Int} (h:b=decide (z<0)):sg b z.natAbs=z:=by subst h;exact sg_self z
theorem Rz.len {w:World} {ad:Option Addr} {n cap N:Nat} (h:Dg w .i64 65536 (.slice ad n cap) N):n=dl 65536 N:=by
 obtain⟨_,_,h1,_⟩:=h
 injection h1
theorem ropp_any (v1:Value) (z1:Int) (w:World) (h1:Rz w v1 z1):
 Calls Tryz.prog 140 #[v1] w (RzPost w (-z1)):=by
 obtain⟨neg1,ad1,n1,cap1,rfl,hn1,hN1⟩:=h1.shape
 have hb0:=((Below.refl w.heap.size w).alloc (Nat.le_refl _) (.cells #[.bool neg1,.slice ad1 n1 cap1] 38)).alloc (by first|(simp;done)|(simp;omega)|omega) (.cells #[.bool false,.slice none 0 0] 38)
 have ni9:NoInt ((w.alloc (.cells #[.bool neg1,.slice ad1 n1 cap1] 38)).alloc (.cells #[.bool false,.slice none 0 0] 38)) (w.heap.size+1):=by
  have k0:=NoInt.box (w:=(w.alloc (.cells #[.bool neg1,.slice ad1 n1 cap1] 38))) (l:=[.bool false,.slice none 0 0]) (T:=38) (by simp[notInt_bool,notInt_slice])
  have e0:(w.alloc (.cells #[.bool neg1,.slice ad1 n1 cap1] 38)).heap.size =(w.heap.size+1):=by simp
  rw[e0] at k0
  exact k0
 have hN1':=hN1.below hb0
 have ES:=Lib.hid (sg_not hn1.out)
 go_enter Tryz.func140,Tryz.ntmps140
 go_wp2_with fail
 have kc:=rmake_any (!neg1) _ _ _ hN1'
 rw[ES.out] at kc
 refine kc.mono ?_
 rintro e w1 ⟨v9,rfl,h9,bb⟩
 clear kc
 replace hN1':=hN1'.below bb
 have bel:=bb
 clear bb
 obtain⟨b9,ad9,n9,cap9,rfl⟩:=h9.form
 obtain⟨hc,hf⟩:=bcell bel
 obtain⟨bel9,kp⟩:=store2 hb0 (by first|(simp;done)|(simp;omega)|omega) (by first|(simp;done)|(simp;omega)|omega) ni9 bel (.bool b9) (.slice ad9 n9 cap9) (notInt_bool _)
 go_wp2
 exact bodyPost_ret (by simp[results,Tryz.results140,go_sem,hc]) rfl ⟨_,rfl,kp.rz h9,bel9⟩
theorem rsign_any (v1:Value) (z1:Int) (w:World) (h1:Rz w v1 z1):
 Calls Tryz.prog 139 #[v1] w (IntPost w (sz z1)):=by
 obtain⟨neg1,ad1,n1,cap1,rfl,hn1,hN1⟩:=h1.shape
 have hb0:=(Below.refl w.heap.size w).alloc (Nat.le_refl _) (.cells #[.bool neg1,.slice ad1 n1 cap1] 38)
 have HL:=Lib.hid (Rz.len hN1)
 by_cases h0:z1=0
 ·have e0:n1=0:=by rw[HL.out,h0];exact dl_zero _
  rw[show sz z1=0 from by rw[h0];rfl]
  clear h0 HL
  subst e0
  go_enter Tryz.func139,Tryz.ntmps139
  go_wp2
  go_ret
  exact⟨rfl,hb0⟩
 ·have hp:0<n1:=by have:=dl_pos (b:=65536) (n:=z1.natAbs) (by omega) (by omega);rw[HL.out];exact this
  have hp0:((n1:Int) == 0)=false:=by simp;omega
  by_cases hlt:z1<0
  ·obtain rfl:neg1=true:=by rw[hn1.out];simp;omega
   rw[show sz z1= -1 from by unfold sz;rw[if_neg h0,if_pos hlt]]
   clear h0 hlt HL hn1
   go_enter Tryz.func139,Tryz.ntmps139
   go_wp2
   go_ret
   exact⟨rfl,hb0⟩
  ·obtain rfl:neg1=false:=by rw[hn1.out];simp;omega
   rw[show sz z1=1 from by unfold sz;rw[if_neg h0,if_neg hlt]]
   clear h0 hlt HL hn1
   go_enter Tryz.func139,Tryz.ntmps139
   go_wp2
   go_ret
   exact⟨rfl,hb0⟩
theorem rmul_any (v1 v2:Value) (z1 z2:Int) (a b:Nat) (w:World) (h1:Rz w v1 z1) (h2:Rz w v2 z2) (l1:Lim z1.natAbs a) (l2:Lim z2.natAbs b) (ha:a≤50000) (hb:b≤50000):
 Calls Tryz.prog 74 #[v1,v2] w (RzPost w (z1*z2)):=by
 obtain⟨neg1,ad1,n1,cap1,rfl,hn1,hN1⟩:=h1.shape
 obtain⟨neg2,ad2,n2,cap2,rfl,hn2,hN2⟩:=h2.shape
 have hb0:=(((Below.refl w.heap.size w).alloc (Nat.le_refl _) (.cells #[.bool neg1,.slice ad1 n1 cap1] 38)).alloc (by first|(simp;done)|(simp;omega)|omega) (.cells #[.bool neg2,.slice ad2 n2 cap2] 38)).alloc (by first|(simp;done)|(simp;omega)|omega) (.cells #[.bool false,.slice none 0 0] 38)
 have ni9:NoInt (((w.alloc (.cells #[.bool neg1,.slice ad1 n1 cap1] 38)).alloc (.cells #[.bool neg2,.slice ad2 n2 cap2] 38)).alloc (.cells #[.bool false,.slice none 0 0] 38)) (w.heap.size+2):=by
  have k0:=NoInt.box (w:=((w.alloc (.cells #[.bool neg1,.slice ad1 n1 cap1] 38)).alloc (.cells #[.bool neg2,.slice ad2 n2 cap2] 38))) (l:=[.bool false,.slice none 0 0]) (T:=38) (by simp[notInt_bool,notInt_slice])
  have e0:((w.alloc (.cells #[.bool neg1,.slice ad1 n1 cap1] 38)).alloc (.cells #[.bool neg2,.slice ad2 n2 cap2] 38)).heap.size =(w.heap.size+2):=by simp
  rw[e0] at k0
  exact k0
 have hN1':=hN1.below hb0;have hN2':=hN2.below hb0
 have hm:=sg_mul neg1 neg2 z1.natAbs z2.natAbs
 rw[sg_is hn1.out,sg_is hn2.out] at hm
 have ES:=Lib.hid hm
 clear hm
 have D1:=Lib.hid (l1.dh 100000 (by omega));have D2:=Lib.hid (l2.dh 100000 (by omega))
 have hne:w.heap.size+1+1≠w.heap.size:=by omega
 have s00:(w.alloc (.cells #[.bool neg1,.slice ad1 n1 cap1] 38)).cell? ⟨w.heap.size,0,none⟩=some (.bool neg1):=by simp
 replace s00:=(World.cell?_alloc_old (w.alloc (.cells #[.bool neg1,.slice ad1 n1 cap1] 38)) (.cells #[.bool neg2,.slice ad2 n2 cap2] 38) ⟨w.heap.size,0,none⟩ (by first|(simp;done)|(simp;omega)|omega)).trans s00
 replace s00:=(World.cell?_alloc_old ((w.alloc (.cells #[.bool neg1,.slice ad1 n1 cap1] 38)).alloc (.cells #[.bool neg2,.slice ad2 n2 cap2] 38)) (.cells #[.bool false,.slice none 0 0] 38) ⟨w.heap.size,0,none⟩ (by first|(simp;done)|(simp;omega)|omega)).trans s00
 have s01:(w.alloc (.cells #[.bool neg1,.slice ad1 n1 cap1] 38)).cell? ⟨w.heap.size,1,none⟩=some (.slice ad1 n1 cap1):=by simp
 replace s01:=(World.cell?_alloc_old (w.alloc (.cells #[.bool neg1,.slice ad1 n1 cap1] 38)) (.cells #[.bool neg2,.slice ad2 n2 cap2] 38) ⟨w.heap.size,1,none⟩ (by first|(simp;done)|(simp;omega)|omega)).trans s01
 replace s01:=(World.cell?_alloc_old ((w.alloc (.cells #[.bool neg1,.slice ad1 n1 cap1] 38)).alloc (.cells #[.bool neg2,.slice ad2 n2 cap2] 38)) (.cells #[.bool false,.slice none 0 0] 38) ⟨w.heap.size,1,none⟩ (by first|(simp;done)|(simp;omega)|omega)).trans s01
 have s10:((w.alloc (.cells #[.bool neg1,.slice ad1 n1 cap1] 38)).alloc (.cells #[.bool neg2,.slice ad2 n2 cap2] 38)).cell? ⟨(w.heap.size+1),0,none⟩=some (.bool neg2):=by simp
 replace s10:=(World.cell?_alloc_old ((w.alloc (.cells #[.bool neg1,.slice ad1 n1 cap1] 38)).alloc (.cells #[.bool neg2,.slice ad2 n2 cap2] 38)) (.cells #[.bool false,.slice none 0 0] 38) ⟨(w.heap.size+1),0,none⟩ (by first|(simp;done)|(simp;omega)|omega)).trans s10
 have s11:((w.alloc (.cells #[.bool neg1,.slice ad1 n1 cap1] 38)).alloc (.cells #[.bool neg2,.slice ad2 n2 cap2] 38)).cell? ⟨(w.heap.size+1),1,none⟩=some (.slice ad2 n2 cap2):=by simp
 replace s11:=(World.cell?_alloc_old ((w.alloc (.cells #[.bool neg1,.slice ad1 n1 cap1] 38)).alloc (.cells #[.bool neg2,.slice ad2 n2 cap2] 38)) (.cells #[.bool false,.slice none 0 0] 38) ⟨(w.heap.size+1),1,none⟩ (by first|(simp;done)|(simp;omega)|omega)).trans s11
 go_enter Tryz.func74,Tryz.ntmps74
 go_wp2_with fail
 have bd:=cell_bd s00
 replace hN1':=hN1'.below bd
 replace hN2':=hN2'.below bd
 replace s00:=(bd.cell (p:=⟨w.heap.size,0,none⟩) (cell_lt s00)).trans s00
 replace s01:=(bd.cell (p:=⟨w.heap.size,1,none⟩) (cell_lt s01)).trans s01
 replace s10:=(bd.cell (p:=⟨(w.heap.size+1),0,none⟩) (cell_lt s10)).trans s10
 replace s11:=(bd.cell (p:=⟨(w.heap.size+1),1,none⟩) (cell_lt s11)).trans s11
 have bel:=bd
 clear bd
 go_region_held3 (fun w'=>w'.cell? ⟨w.heap.size,0,none⟩=some (.bool neg1)∧w'.cell? ⟨w.heap.size,1,none⟩=some (.slice ad1 n1 cap1)∧w'.cell? ⟨(w.heap.size+1),0,none⟩=some (.bool neg2)∧w'.cell? ⟨(w.heap.size+1),1,none⟩=some (.slice ad2 n2 cap2)) (first|exact⟨s00,s01,s10,s11⟩|go_keep)
  (first
  |(go_at_call 127;refine(smul_any _ _ _ _ _ hN1' hN2' D1.out D2.out).mono ?_;rintro e w1 ⟨v3,rfl,d3,bb⟩;replace hN1':=hN1'.below bb;replace hN2':=hN2'.below bb;replace s00:=(bb.cell (p:=⟨w.heap.size,0,none⟩) (cell_lt s00)).trans s00;replace s01:=(bb.cell (p:=⟨w.heap.size,1,none⟩) (cell_lt s01)).trans s01;replace s10:=(bb.cell (p:=⟨(w.heap.size+1),0,none⟩) (cell_lt s10)).trans s10;replace s11:=(bb.cell (p:=⟨(w.heap.size+1),1,none⟩) (cell_lt s11)).trans s11;replace bel:=below_to bel bb;clear bb)
  |(go_at_call 71;refine(rmake_any _ _ _ _ d3).mono ?_;rintro e w2 ⟨v9,rfl,h9,bb⟩;replace hN1':=hN1'.below bb;replace hN2':=hN2'.below bb;replace d3:=d3.below bb;replace s00:=(bb.cell (p:=⟨w.heap.size,0,none⟩) (cell_lt s00)).trans s00;replace s01:=(bb.cell (p:=⟨w.heap.size,1,none⟩) (cell_lt s01)).trans s01;replace s10:=(bb.cell (p:=⟨(w.heap.size+1),0,none⟩) (cell_lt s10)).trans s10;replace s11:=(bb.cell (p:=⟨(w.heap.size+1),1,none⟩) (cell_lt s11)).trans s11;replace bel:=below_to bel bb;clear bb;rw[ES.out] at h9;obtain⟨b9,ad9,n9,cap9,rfl⟩:=h9.form;obtain⟨hc,hf⟩:=bcell bel))
 obtain⟨bel9,kp⟩:=store2 hb0 (by first|(simp;done)|(simp;omega)|omega) (by first|(simp;done)|(simp;omega)|omega) ni9 bel (.bool b9) (.slice ad9 n9 cap9) (notInt_bool _)
 go_wp2
 exact bodyPost_ret (by simp[results,Tryz.results74,go_sem,hc]) rfl ⟨_,rfl,kp.rz h9,bel9⟩
end
section
theorem radd_any3 (v1 v2:Value) (z1 z2:Int) (a b:Nat) (w:World) (h1:Rz w v1 z1) (h2:Rz w v2 z2) (l1:Lim z1.natAbs a) (l2:Lim z2.natAbs b) (ha:a≤500000) (hb:b≤500000):
 Calls Tryz.prog 126 #[v1,v2] w (RzPost w (z1+z2)):=by
 obtain⟨neg1,ad1,n1,cap1,rfl,hn1,hN1⟩:=h1.shape
 obtain⟨neg2,ad2,n2,cap2,rfl,hn2,hN2⟩:=h2.shape
 have hb0:=(((Below.refl w.heap.size w).alloc (Nat.le_refl _) (.cells #[.bool neg1,.slice ad1 n1 cap1] 38)).alloc (by first|(simp;done)|(simp;omega)|omega) (.cells #[.bool neg2,.slice ad2 n2 cap2] 38)).alloc (by first|(simp;done)|(simp;omega)|omega) (.cells #[.bool false,.slice none 0 0] 38)
 have ni9:NoInt (((w.alloc (.cells #[.bool neg1,.slice ad1 n1 cap1] 38)).alloc (.cells #[.bool neg2,.slice ad2 n2 cap2] 38)).alloc (.cells #[.bool false,.slice none 0 0] 38)) (w.heap.size+2):=by
  have k0:=NoInt.box (w:=((w.alloc (.cells #[.bool neg1,.slice ad1 n1 cap1] 38)).alloc (.cells #[.bool neg2,.slice ad2 n2 cap2] 38))) (l:=[.bool false,.slice none 0 0]) (T:=38) (by simp[notInt_bool,notInt_slice])
  have e0:((w.alloc (.cells #[.bool neg1,.slice ad1 n1 cap1] 38)).alloc (.cells #[.bool neg2,.slice ad2 n2 cap2] 38)).heap.size =(w.heap.size+2):=by simp
  rw[e0] at k0
  exact k0
 have hN1':=hN1.below hb0;have hN2':=hN2.below hb0
 have D1:=Lib.hid (l1.dh 1000000 (by omega));have D2:=Lib.hid (l2.dh 1000000 (by omega))
 have e1:=sg_is hn1.out;have e2:=sg_is hn2.out
 have hne:w.heap.size+1+1≠w.heap.size:=by omega
 have s00:(w.alloc (.cells #[.bool neg1,.slice ad1 n1 cap1] 38)).cell? ⟨w.heap.size,0,none⟩=some (.bool neg1):=by simp
 replace s00:=(World.cell?_alloc_old (w.alloc (.cells #[.bool neg1,.slice ad1 n1 cap1] 38)) (.cells #[.bool neg2,.slice ad2 n2 cap2] 38) ⟨w.heap.size,0,none⟩ (by first|(simp;done)|(simp;omega)|omega)).trans s00
 replace s00:=(World.cell?_alloc_old ((w.alloc (.cells #[.bool neg1,.slice ad1 n1 cap1] 38)).alloc (.cells #[.bool neg2,.slice ad2 n2 cap2] 38)) (.cells #[.bool false,.slice none 0 0] 38) ⟨w.heap.size,0,none⟩ (by first|(simp;done)|(simp;omega)|omega)).trans s00
 have s01:(w.alloc (.cells #[.bool neg1,.slice ad1 n1 cap1] 38)).cell? ⟨w.heap.size,1,none⟩=some (.slice ad1 n1 cap1):=by simp
 replace s01:=(World.cell?_alloc_old (w.alloc (.cells #[.bool neg1,.slice ad1 n1 cap1] 38)) (.cells #[.bool neg2,.slice ad2 n2 cap2] 38) ⟨w.heap.size,1,none⟩ (by first|(simp;done)|(simp;omega)|omega)).trans s01
 replace s01:=(World.cell?_alloc_old ((w.alloc (.cells #[.bool neg1,.slice ad1 n1 cap1] 38)).alloc (.cells #[.bool neg2,.slice ad2 n2 cap2] 38)) (.cells #[.bool false,.slice none 0 0] 38) ⟨w.heap.size,1,none⟩ (by first|(simp;done)|(simp;omega)|omega)).trans s01
 have s10:((w.alloc (.cells #[.bool neg1,.slice ad1 n1 cap1] 38)).alloc (.cells #[.bool neg2,.slice ad2 n2 cap2] 38)).cell? ⟨(w.heap.size+1),0,none⟩=some (.bool neg2):=by simp
 replace s10:=(World.cell?_alloc_old ((w.alloc (.cells #[.bool neg1,.slice ad1 n1 cap1] 38)).alloc (.cells #[.bool neg2,.slice ad2 n2 cap2] 38)) (.cells #[.bool false,.slice none 0 0] 38) ⟨(w.heap.size+1),0,none⟩ (by first|(simp;done)|(simp;omega)|omega)).trans s10
 have s11:((w.alloc (.cells #[.bool neg1,.slice ad1 n1 cap1] 38)).alloc (.cells #[.bool neg2,.slice ad2 n2 cap2] 38)).cell? ⟨(w.heap.size+1),1,none⟩=some (.slice ad2 n2 cap2):=by simp
 replace s11:=(World.cell?_alloc_old ((w.alloc (.cells #[.bool neg1,.slice ad1 n1 cap1] 38)).alloc (.cells #[.bool neg2,.slice ad2 n2 cap2] 38)) (.cells #[.bool false,.slice none 0 0] 38) ⟨(w.heap.size+1),1,none⟩ (by first|(simp;done)|(simp;omega)|omega)).trans s11
 generalize z1.natAbs=N1 at*
 generalize z2.natAbs=N2 at*
 by_cases e:neg1=neg2
 ·subst e
  have ES:=Lib.hid (show sg neg1 (N1+N2)=z1+z2 from by rw[←e1,←e2];cases neg1 <;> simp[sg] <;> omega)
  clear e1 e2
  go_enter Tryz.func126,Tryz.ntmps126
  go_wp2_with fail
  have bd:=cell_bd s00
  replace hN1':=hN1'.below bd
  replace hN2':=hN2'.below bd
  replace s00:=(bd.cell (p:=⟨w.heap.size,0,none⟩) (cell_lt s00)).trans s00
  replace s01:=(bd.cell (p:=⟨w.heap.size,1,none⟩) (cell_lt s01)).trans s01
  replace s10:=(bd.cell (p:=⟨(w.heap.size+1),0,none⟩) (cell_lt s10)).trans s10
  replace s11:=(bd.cell (p:=⟨(w.heap.size+1),1,none⟩) (cell_lt s11)).trans s11
  have bel:=bd
  clear bd
  go_region_held3 (fun w'=>w'.cell? ⟨w.heap.size,0,none⟩=some (.bool neg1)∧w'.cell? ⟨w.heap.size,1,none⟩=some (.slice ad1 n1 cap1)∧w'.cell? ⟨(w.heap.size+1),0,none⟩=some (.bool neg1)∧w'.cell? ⟨(w.heap.size+1),1,none⟩=some (.slice ad2 n2 cap2)) (first|exact⟨s00,s01,s10,s11⟩|go_keep)
   (first
   |(go_at_call 171;refine(sadd_any _ _ _ _ _ hN1' hN2' ⟨D1.out,D2.out⟩).mono ?_;rintro e w1 ⟨v3,rfl,d3,bb⟩;replace hN1':=hN1'.below bb;replace hN2':=hN2'.below bb;replace s00:=(bb.cell (p:=⟨w.heap.size,0,none⟩) (cell_lt s00)).trans s00;replace s01:=(bb.cell (p:=⟨w.heap.size,1,none⟩) (cell_lt s01)).trans s01;replace s10:=(bb.cell (p:=⟨(w.heap.size+1),0,none⟩) (cell_lt s10)).trans s10;replace s11:=(bb.cell (p:=⟨(w.heap.size+1),1,none⟩) (cell_lt s11)).trans s11;replace bel:=below_to bel bb;clear bb)
   |(go_at_call 71;refine(rmake_any _ _ _ _ d3).mono ?_;rintro e w2 ⟨v9,rfl,h9,bb⟩;replace hN1':=hN1'.below bb;replace hN2':=hN2'.below bb;replace d3:=d3.below bb;replace s00:=(bb.cell (p:=⟨w.heap.size,0,none⟩) (cell_lt s00)).trans s00;replace s01:=(bb.cell (p:=⟨w.heap.size,1,none⟩) (cell_lt s01)).trans s01;replace s10:=(bb.cell (p:=⟨(w.heap.size+1),0,none⟩) (cell_lt s10)).trans s10;replace s11:=(bb.cell (p:=⟨(w.heap.size+1),1,none⟩) (cell_lt s11)).trans s11;replace bel:=below_to bel bb;clear bb;rw[ES.out] at h9;obtain⟨b9,ad9,n9,cap9,rfl⟩:=h9.form;obtain⟨hc,hf⟩:=bcell bel))
  obtain⟨bel9,kp⟩:=store2 hb0 (by first|(simp;done)|(simp;omega)|omega) (by first|(simp;done)|(simp;omega)|omega) ni9 bel (.bool b9) (.slice ad9 n9 cap9) (notInt_bool _)
  go_wp2
  exact bodyPost_ret (by simp[results,Tryz.results126,go_sem,hc]) rfl ⟨_,rfl,kp.rz h9,bel9⟩
 ·obtain rfl:neg2=!neg1:=by cases neg1 <;> cases neg2 <;> simp_all
  have hnb:(neg1 == !neg1)=false:=by cases neg1 <;> rfl
  clear e
  by_cases hlt:N1<N2
  ·have ES:=Lib.hid (show sg (!neg1) (N2-N1)=z1+z2 from by rw[←e1,←e2];cases neg1 <;> simp[sg] <;> omega)
   have HC:=Lib.hid (c3_lt hlt)
   have hle:N1≤N2:=by omega
   clear e1 e2 hlt
   go_enter Tryz.func126,Tryz.ntmps126
   go_wp2_with fail
   have kc:=scmp_any _ _ N1 N2 _ hN1' hN2'
   rw[HC.out] at kc
   refine kc.mono ?_
   intro e w1 hh
   obtain⟨rfl,bb,hsz⟩:=quiet_below hh
   clear hh hsz kc
   replace hN1':=hN1'.below bb
   replace hN2':=hN2'.below bb
   replace s00:=(bb.cell (p:=⟨w.heap.size,0,none⟩) (cell_lt s00)).trans s00
   replace s01:=(bb.cell (p:=⟨w.heap.size,1,none⟩) (cell_lt s01)).trans s01
   replace s10:=(bb.cell (p:=⟨(w.heap.size+1),0,none⟩) (cell_lt s10)).trans s10
   replace s11:=(bb.cell (p:=⟨(w.heap.size+1),1,none⟩) (cell_lt s11)).trans s11
   have bel:=bb
   clear bb
   go_wp2_with fail
   have bd:=cell_bd s00
   replace hN1':=hN1'.below bd
   replace hN2':=hN2'.below bd
   replace s00:=(bd.cell (p:=⟨w.heap.size,0,none⟩) (cell_lt s00)).trans s00
   replace s01:=(bd.cell (p:=⟨w.heap.size,1,none⟩) (cell_lt s01)).trans s01
   replace s10:=(bd.cell (p:=⟨(w.heap.size+1),0,none⟩) (cell_lt s10)).trans s10
   replace s11:=(bd.cell (p:=⟨(w.heap.size+1),1,none⟩) (cell_lt s11)).trans s11
   replace bel:=below_to bel bd
   clear bd
   go_region_held3 (fun w'=>w'.cell? ⟨w.heap.size,0,none⟩=some (.bool neg1)∧w'.cell? ⟨w.heap.size,1,none⟩=some (.slice ad1 n1 cap1)∧w'.cell? ⟨(w.heap.size+1),0,none⟩=some (.bool (!neg1))∧w'.cell? ⟨(w.heap.size+1),1,none⟩=some (.slice ad2 n2 cap2)) (first|exact⟨s00,s01,s10,s11⟩|go_keep)
    (first
    |(go_at_call 173;refine(ssub_any _ _ _ _ _ hN2' hN1' hle D2.out).mono ?_;rintro e w2 ⟨v3,rfl,d3,bb⟩;replace hN1':=hN1'.below bb;replace hN2':=hN2'.below bb;replace s00:=(bb.cell (p:=⟨w.heap.size,0,none⟩) (cell_lt s00)).trans s00;replace s01:=(bb.cell (p:=⟨w.heap.size,1,none⟩) (cell_lt s01)).trans s01;replace s10:=(bb.cell (p:=⟨(w.heap.size+1),0,none⟩) (cell_lt s10)).trans s10;replace s11:=(bb.cell (p:=⟨(w.heap.size+1),1,none⟩) (cell_lt s11)).trans s11;replace bel:=below_to bel bb;clear bb)
    |(go_at_call 71;refine(rmake_any _ _ _ _ d3).mono ?_;rintro e w3 ⟨v9,rfl,h9,bb⟩;replace hN1':=hN1'.below bb;replace hN2':=hN2'.below bb;replace d3:=d3.below bb;replace s00:=(bb.cell (p:=⟨w.heap.size,0,none⟩) (cell_lt s00)).trans s00;replace s01:=(bb.cell (p:=⟨w.heap.size,1,none⟩) (cell_lt s01)).trans s01;replace s10:=(bb.cell (p:=⟨(w.heap.size+1),0,none⟩) (cell_lt s10)).trans s10;replace s11:=(bb.cell (p:=⟨(w.heap.size+1),1,none⟩) (cell_lt s11)).trans s11;replace bel:=below_to bel bb;clear bb;rw[ES.out] at h9;obtain⟨b9,ad9,n9,cap9,rfl⟩:=h9.form;obtain⟨hc,hf⟩:=bcell bel))
   obtain⟨bel9,kp⟩:=store2 hb0 (by first|(simp;done)|(simp;omega)|omega) (by first|(simp;done)|(simp;omega)|omega) ni9 bel (.bool b9) (.slice ad9 n9 cap9) (notInt_bool _)
   go_wp2
   exact bodyPost_ret (by simp[results,Tryz.results126,go_sem,hc]) rfl ⟨_,rfl,kp.rz h9,bel9⟩
  ·have ES:=Lib.hid (show sg neg1 (N1-N2)=z1+z2 from by rw[←e1,←e2];cases neg1 <;> simp[sg] <;> omega)
   have hge:0≤c3 N1 N2:=c3_ge.2 (by omega)
   obtain⟨c,hcc⟩:∃c,c=c3 N1 N2:=⟨_,rfl⟩
   rw[←hcc] at hge
   have HC:=Lib.hid hcc.symm
   have hle:N2≤N1:=by omega
   clear e1 e2 hlt hcc
   go_enter Tryz.func126,Tryz.ntmps126
   go_wp2_with fail
   have kc:=scmp_any _ _ N1 N2 _ hN1' hN2'
   rw[HC.out] at kc
   refine kc.mono ?_
   intro e w1 hh
   obtain⟨rfl,bb,hsz⟩:=quiet_below hh
   clear hh hsz kc
   replace hN1':=hN1'.below bb
   replace hN2':=hN2'.below bb
   replace s00:=(bb.cell (p:=⟨w.heap.size,0,none⟩) (cell_lt s00)).trans s00
   replace s01:=(bb.cell (p:=⟨w.heap.size,1,none⟩) (cell_lt s01)).trans s01
   replace s10:=(bb.cell (p:=⟨(w.heap.size+1),0,none⟩) (cell_lt s10)).trans s10
   replace s11:=(bb.cell (p:=⟨(w.heap.size+1),1,none⟩) (cell_lt s11)).trans s11
   have bel:=bb
   clear bb
   go_wp2_with fail
   have bd:=cell_bd s00
   replace hN1':=hN1'.below bd
   replace hN2':=hN2'.below bd
   replace s00:=(bd.cell (p:=⟨w.heap.size,0,none⟩) (cell_lt s00)).trans s00
   replace s01:=(bd.cell (p:=⟨w.heap.size,1,none⟩) (cell_lt s01)).trans s01
   replace s10:=(bd.cell (p:=⟨(w.heap.size+1),0,none⟩) (cell_lt s10)).trans s10
   replace s11:=(bd.cell (p:=⟨(w.heap.size+1),1,none⟩) (cell_lt s11)).trans s11
   replace bel:=below_to bel bd
   clear bd
   go_region_held3 (fun w'=>w'.cell? ⟨w.heap.size,0,none⟩=some (.bool neg1)∧w'.cell? ⟨w.heap.size,1,none⟩=some (.slice ad1 n1 cap1)∧w'.cell? ⟨(w.heap.size+1),0,none⟩=some (.bool (!neg1))∧w'.cell? ⟨(w.heap.size+1),1,none⟩=some (.slice ad2 n2 cap2)) (first|exact⟨s00,s01,s10,s11⟩|go_keep)
    (first
    |(go_at_call 173;refine(ssub_any _ _ _ _ _ hN1' hN2' hle D1.out).mono ?_;rintro e w2 ⟨v3,rfl,d3,bb⟩;replace hN1':=hN1'.below bb;replace hN2':=hN2'.below bb;replace s00:=(bb.cell (p:=⟨w.heap.size,0,none⟩) (cell_lt s00)).trans s00;replace s01:=(bb.cell (p:=⟨w.heap.size,1,none⟩) (cell_lt s01)).trans s01;replace s10:=(bb.cell (p:=⟨(w.heap.size+1),0,none⟩) (cell_lt s10)).trans s10;replace s11:=(bb.cell (p:=⟨(w.heap.size+1),1,none⟩) (cell_lt s11)).trans s11;replace bel:=below_to bel bb;clear bb)
    |(go_at_call 71;refine(rmake_any _ _ _ _ d3).mono ?_;rintro e w3 ⟨v9,rfl,h9,bb⟩;replace hN1':=hN1'.below bb;replace hN2':=hN2'.below bb;replace d3:=d3.below bb;replace s00:=(bb.cell (p:=⟨w.heap.size,0,none⟩) (cell_lt s00)).trans s00;replace s01:=(bb.cell (p:=⟨w.heap.size,1,none⟩) (cell_lt s01)).trans s01;replace s10:=(bb.cell (p:=⟨(w.heap.size+1),0,none⟩) (cell_lt s10)).trans s10;replace s11:=(bb.cell (p:=⟨(w.heap.size+1),1,none⟩) (cell_lt s11)).trans s11;replace bel:=below_to bel bb;clear bb;rw[ES.out] at h9;obtain⟨b9,ad9,n9,cap9,rfl⟩:=h9.form;obtain⟨hc,hf⟩:=bcell bel))
   obtain⟨bel9,kp⟩:=store2 hb0 (by first|(simp;done)|(simp;omega)|omega) (by first|(simp;done)|(simp;omega)|omega) ni9 bel (.bool b9) (.slice ad9 n9 cap9) (notInt_bool _)
   go_wp2
   exact bodyPost_ret (by simp[results,Tryz.results126,go_sem,hc]) rfl ⟨_,rfl,kp.rz h9,bel9⟩
end
section
theorem sz_sub (x y:Int):sz (x+ -y)=ci x y:=by
 unfold sz ci
 split <;> (try split) <;> (try split) <;> (try split) <;> omega
theorem rcmp_any3 (v1 v2:Value) (z1 z2:Int) (a b:Nat) (w:World) (h1:Rz w v1 z1) (h2:Rz w v2 z2) (l1:Lim z1.natAbs a) (l2:Lim z2.natAbs b) (ha:a≤500000) (hb:b≤500000):
 Calls Tryz.prog 73 #[v1,v2] w (IntPost w (ci z1 z2)):=by
 obtain⟨neg1,ad1,n1,cap1,rfl,hn1,hN1⟩:=h1.shape
 obtain⟨neg2,ad2,n2,cap2,rfl,hn2,hN2⟩:=h2.shape
 have hb0:=((Below.refl w.heap.size w).alloc (Nat.le_refl _) (.cells #[.bool neg1,.slice ad1 n1 cap1] 38)).alloc (by first|(simp;done)|(simp;omega)|omega) (.cells #[.bool neg2,.slice ad2 n2 cap2] 38)
 have hz1':=h1.below hb0;have hz2':=h2.below hb0
 have L2:=Lib.hid (show Lim (-z2).natAbs b from by rw[Int.natAbs_neg];exact l2)
 have ES:=Lib.hid (sz_sub z1 z2)
 have s00:(w.alloc (.cells #[.bool neg1,.slice ad1 n1 cap1] 38)).cell? ⟨w.heap.size,0,none⟩=some (.bool neg1):=by simp
 replace s00:=(World.cell?_alloc_old (w.alloc (.cells #[.bool neg1,.slice ad1 n1 cap1] 38)) (.cells #[.bool neg2,.slice ad2 n2 cap2] 38) ⟨w.heap.size,0,none⟩ (by first|(simp;done)|(simp;omega)|omega)).trans s00
 have s01:(w.alloc (.cells #[.bool neg1,.slice ad1 n1 cap1] 38)).cell? ⟨w.heap.size,1,none⟩=some (.slice ad1 n1 cap1):=by simp
 replace s01:=(World.cell?_alloc_old (w.alloc (.cells #[.bool neg1,.slice ad1 n1 cap1] 38)) (.cells #[.bool neg2,.slice ad2 n2 cap2] 38) ⟨w.heap.size,1,none⟩ (by first|(simp;done)|(simp;omega)|omega)).trans s01
 have s10:((w.alloc (.cells #[.bool neg1,.slice ad1 n1 cap1] 38)).alloc (.cells #[.bool neg2,.slice ad2 n2 cap2] 38)).cell? ⟨(w.heap.size+1),0,none⟩=some (.bool neg2):=by simp
 have s11:((w.alloc (.cells #[.bool neg1,.slice ad1 n1 cap1] 38)).alloc (.cells #[.bool neg2,.slice ad2 n2 cap2] 38)).cell? ⟨(w.heap.size+1),1,none⟩=some (.slice ad2 n2 cap2):=by simp
 go_enter Tryz.func73,Tryz.ntmps73
 go_wp2_with fail
 have bd:=cell_bd s00
 replace hz1':=hz1'.below bd
 replace hz2':=hz2'.below bd
 replace s00:=(bd.cell (p:=⟨w.heap.size,0,none⟩) (cell_lt s00)).trans s00
 replace s01:=(bd.cell (p:=⟨w.heap.size,1,none⟩) (cell_lt s01)).trans s01
 replace s10:=(bd.cell (p:=⟨(w.heap.size+1),0,none⟩) (cell_lt s10)).trans s10
 replace s11:=(bd.cell (p:=⟨(w.heap.size+1),1,none⟩) (cell_lt s11)).trans s11
 have bel:=bd
 clear bd
 go_region_held3 (fun w'=>w'.cell? ⟨w.heap.size,0,none⟩=some (.bool neg1)∧w'.cell? ⟨w.heap.size,1,none⟩=some (.slice ad1 n1 cap1)∧w'.cell? ⟨(w.heap.size+1),0,none⟩=some (.bool neg2)∧w'.cell? ⟨(w.heap.size+1),1,none⟩=some (.slice ad2 n2 cap2)) (first|exact⟨s00,s01,s10,s11⟩|go_keep)
  (first
  |(go_at_call 140;refine(ropp_any _ _ _ hz2').mono ?_;rintro e w1 ⟨v3,rfl,d3,bb⟩;replace hz1':=hz1'.below bb;replace hz2':=hz2'.below bb;replace s00:=(bb.cell (p:=⟨w.heap.size,0,none⟩) (cell_lt s00)).trans s00;replace s01:=(bb.cell (p:=⟨w.heap.size,1,none⟩) (cell_lt s01)).trans s01;replace s10:=(bb.cell (p:=⟨(w.heap.size+1),0,none⟩) (cell_lt s10)).trans s10;replace s11:=(bb.cell (p:=⟨(w.heap.size+1),1,none⟩) (cell_lt s11)).trans s11;replace bel:=below_to bel bb;clear bb)
  |(go_at_call 126;refine(radd_any3 _ _ _ _ a b _ hz1' d3 l1 L2.out ha hb).mono ?_;rintro e w2 ⟨v4,rfl,d4,bb⟩;replace hz1':=hz1'.below bb;replace hz2':=hz2'.below bb;replace d3:=d3.below bb;replace s00:=(bb.cell (p:=⟨w.heap.size,0,none⟩) (cell_lt s00)).trans s00;replace s01:=(bb.cell (p:=⟨w.heap.size,1,none⟩) (cell_lt s01)).trans s01;replace s10:=(bb.cell (p:=⟨(w.heap.size+1),0,none⟩) (cell_lt s10)).trans s10;replace s11:=(bb.cell (p:=⟨(w.heap.size+1),1,none⟩) (cell_lt s11)).trans s11;replace bel:=below_to bel bb;clear bb)
  |(go_at_call 139;refine(rsign_any _ _ _ d4).mono ?_;rintro e w3 ⟨rfl,bb⟩;replace hz1':=hz1'.below bb;replace hz2':=hz2'.below bb;replace d3:=d3.below bb;replace d4:=d4.below bb;replace s00:=(bb.cell (p:=⟨w.heap.size,0,none⟩) (cell_lt s00)).trans s00;replace s01:=(bb.cell (p:=⟨w.heap.size,1,none⟩) (cell_lt s01)).trans s01;replace s10:=(bb.cell (p:=⟨(w.heap.size+1),0,none⟩) (cell_lt s10)).trans s10;replace s11:=(bb.cell (p:=⟨(w.heap.size+1),1,none⟩) (cell_lt s11)).trans s11;replace bel:=below_to bel bb;clear bb;rw[ES.out]))
 go_wp2
 go_ret
 exact⟨rfl,hb0.trans (bel.mono hb0.size)⟩
end
section
def OfInv (w:World) (N:Nat) (n o i:Value) (wr:World):Prop:=
 ∃k m:Nat,k≤4∧k≤dl 65536 N∧i= .int .i64 k∧n= .int .i64 m∧m=N/65536^k∧Acc wr .i64 3 w.heap.size o ((dg 65536 N).take k)∧Below w.heap.size w wr
theorem of_more {N k:Nat} (h:0<N/65536^k):k<dl 65536 N:=by
 by_cases hk:k<dl 65536 N
 ·exact hk
 ·exfalso
  have h1:=lt_dl (b:=65536) (by omega) N
  have h2:(65536:Nat)^dl 65536 N≤65536^k:=Nat.pow_le_pow_right (by omega) (by omega)
  rw[Nat.div_eq_of_lt (by omega)] at h
  omega
theorem of_done {N k:Nat} (h:N/65536^k=0):(dg 65536 N).take k=dg 65536 N:=by
 have h1:N<65536^k:=by
  by_cases hh:N<65536^k
  ·exact hh
  ·have:=Nat.div_pos (Nat.le_of_not_lt hh) (Nat.pow_pos (n:=k) (show 0<65536 by omega));omega
 exact List.take_of_length_le (dl_le (by omega) h1)
theorem of_four {N:Nat} (h:N<18446744073709551616):N/65536^4=0:=Nat.div_eq_of_lt (Nat.lt_of_lt_of_le h (by decide))
theorem sOf_any (N:Nat) (w:World) (hN:N<9223372036854775808):
 Calls Tryz.prog 160 #[.int .i64 N] w (DhPost w N):=by
 obtain⟨i0,hi,hz0,hz1,hz2⟩:=info_parts Tryz.info3
 have HN:=Lib.hid hN
 have hd4:dl 65536 N≤1099511627776:=Nat.le_trans (dl_le (k:=4) (by omega) (Nat.lt_of_lt_of_le hN (by decide))) (by omega)
 go_enter Tryz.func160,Tryz.ntmps160
 go_wp2
 go_loopw [0,3,4] (fun n o i wr=>OfInv w N n o i wr) (fun _ _ i _=>4-(intOf i).toNat)
 case atStart=>exact⟨0,N,by omega,by omega,rfl,rfl,by simp,Acc.empty w .i64 3 w.heap.size (Nat.le_refl _),(Below.refl _ _).alloc (Nat.le_refl _) _⟩
 case round=>
  obtain⟨k,m,hk,hkd,rfl,rfl,hm,hacc,hbe⟩:=hrel
  have HM:=Lib.hid hm
  have hmb:m<9223372036854775808:=by rw[hm];exact Nat.lt_of_le_of_lt (Nat.div_le_self _ _) HN.out
  clear hm
  by_cases hc:k<4∧0<m
  ·obtain⟨h4,hp⟩:=hc
   have hmore:=of_more (N:=N) (k:=k) (by rw[←HM.out];exact hp)
   have HT:=Lib.hid (take_succ_lg (xs:=dg 65536 N) (k:=k) hmore)
   have HL:=Lib.hid (lg_dg (b:=65536) (by omega) N k)
   have hlen:((dg 65536 N).take k).length ≤2199023255552:=by simp;omega
   have HD:=Lib.hid (show m/65536=N/65536^(k+1) from by rw[HM.out,Nat.div_div_eq_div_mul,Nat.pow_succ])
   go_wp2_with (at_builtin;refine wp_acc _ rfl _ _ 36 rfl .i64 3 i0 8 Tryz.underlying36 hi hz0 hz1 hz2 (by decide) w.heap.size _ _ hacc rfl _ (m%65536) (by omega) rfl hlen hbe.size ?_)
   intro v' w' hacc2 hbel2
   go_wp2
   go_roundw
   case rel=>exact⟨k+1,m/65536,by omega,hmore,by go_num,by go_num,HD.out,by rw[HT.out,HL.out,←HM.out];exact hacc2,hbe.trans hbel2⟩
   case measure=>simp[intOf];omega
  ·have hz:m=0:=by
    by_cases h4:k<4
    ·omega
    ·obtain rfl:k=4:=by omega
     rw[HM.out];exact of_four (by have:=HN.out;omega)
   have HZ:=Lib.hid hz
   have hend:DhPost w N (.returned _) _:=⟨_,rfl,(by rw[of_done (by rw[←HM.out];exact hz)] at hacc;exact hacc.sq (by rw[length_dg];exact hd4)),hbe⟩
   have HE:=Lib.hid hend
   clear hz hend hacc
   have hz1:¬0<m:=by have:=HZ.out;omega
   by_cases h4:k<4
   all_goals
    go_wp2
    go_ret
    exact HE.out
end
section
theorem rOf_any (n:Int) (w:World) (h0: -9223372036854775808<n) (h1:n≤9223372036854775807):
 Calls Tryz.prog 105 #[.int .i64 n] w (RzPost w n):=by
 have hb0:=(Below.refl w.heap.size w).alloc (Nat.le_refl _) (.cells #[.bool false,.slice none 0 0] 38)
 have ni9:NoInt (w.alloc (.cells #[.bool false,.slice none 0 0] 38)) w.heap.size:=by
  have k0:=NoInt.box (w:=w) (l:=[.bool false,.slice none 0 0]) (T:=38) (by simp[notInt_bool,notInt_slice])
  exact k0
 by_cases hn:n<0
 ·obtain⟨m,hm⟩:∃m:Nat,n= -(m:Int):=⟨(-n).toNat,by omega⟩
  have em: -n=(m:Int):=by omega
  have hm2:m<9223372036854775808:=by omega
  have ES:=Lib.hid (show sg true m=n from by rw[hm];rfl)
  have EM:=Lib.hid em
  clear hm em
  go_enter Tryz.func105,Tryz.ntmps105
  go_wp2_with fail
  rw[EM.out]
  refine(sOf_any m _ hm2).mono ?_
  rintro e w1 ⟨v3,rfl,d3,bb⟩
  have bel:=bb
  clear bb
  go_wp2_with fail
  have kc:=rmake_any true _ _ _ d3
  rw[ES.out] at kc
  refine kc.mono ?_
  rintro e w2 ⟨v9,rfl,h9,bb⟩
  clear kc
  replace d3:=d3.below bb
  replace bel:=below_to bel bb
  clear bb
  obtain⟨b9,ad9,n9,cap9,rfl⟩:=h9.form
  obtain⟨hc,hf⟩:=bcell bel
  obtain⟨bel9,kp⟩:=store2 hb0 (by first|(simp;done)|(simp;omega)|omega) (by first|(simp;done)|(simp;omega)|omega) ni9 bel (.bool b9) (.slice ad9 n9 cap9) (notInt_bool _)
  go_wp2
  exact bodyPost_ret (by simp[results,Tryz.results105,go_sem,hc]) rfl ⟨_,rfl,kp.rz h9,bel9⟩
 ·obtain⟨m,rfl⟩:∃m:Nat,n=(m:Int):=⟨n.toNat,by omega⟩
  have hm2:m<9223372036854775808:=by omega
  have ES:=Lib.hid (sg_false m)
  go_enter Tryz.func105,Tryz.ntmps105
  go_wp2_with fail
  refine(sOf_any m _ hm2).mono ?_
  rintro e w1 ⟨v3,rfl,d3,bb⟩
  have bel:=bb
  clear bb
  go_wp2_with fail
  have kc:=rmake_any false _ _ _ d3
  rw[ES.out] at kc
  refine kc.mono ?_
  rintro e w2 ⟨v9,rfl,h9,bb⟩
  clear kc
  replace d3:=d3.below bb
  replace bel:=below_to bel bb
  clear bb
  obtain⟨b9,ad9,n9,cap9,rfl⟩:=h9.form
  obtain⟨hc,hf⟩:=bcell bel
  obtain⟨bel9,kp⟩:=store2 hb0 (by first|(simp;done)|(simp;omega)|omega) (by first|(simp;done)|(simp;omega)|omega) ni9 bel (.bool b9) (.slice ad9 n9 cap9) (notInt_bool _)
  go_wp2
  exact bodyPost_ret (by simp[results,Tryz.results105,go_sem,hc]) rfl ⟨_,rfl,kp.rz h9,bel9⟩
end
end
end Go.Proofs.YtnljadejcfgmaaaGreatDoor
