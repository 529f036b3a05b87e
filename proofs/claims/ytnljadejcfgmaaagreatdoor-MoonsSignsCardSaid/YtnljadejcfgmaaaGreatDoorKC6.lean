import Derived.Test.YtnljadejcfgmaaaGreatDoorKC5
import Derived.Deep.LoopGhost
namespace Go.Proofs.YtnljadejcfgmaaaGreatDoor
open Go.RowKit
set_option maxRecDepth 100000
set_option linter.unusedVariables false
set_option maxHeartbeats 8000000
theorem Tryz.info3:(Tryz.prog.info? 3).map (fun i=>(i.zero,i.size,i.bytes))=some (some (.int .i64 0),1,8):=by kernel_rfl
def RcutPost (b:Nat) (w:World) (ad:Option Addr) (cap:Nat) (xs:List Nat) (e:Ending) (w':World):Prop:=
 e= .returned (.slice ad (dl b (vl b xs)) cap)∧w'=w
theorem rcut_end {b:Nat} {w:World} {ad:Option Addr} {cap n:Nat} {xs:List Nat} {v:Value} (hb:2≤b) (ho:okb b xs) (hn:n≤xs.length) (h0:0<n→lg xs (n-1)≠0) (hz:∀i,n≤i→lg xs i=0) (hv:v= .slice ad n cap):
 RcutPost b w ad cap xs (.returned v) w:=by
 rw[(take_dg hb ho hn h0 hz).2] at hv
 exact⟨by rw[hv],rfl⟩
section
section
theorem lt_digit {b N M j:Nat} (hb:2≤b) (ha:∀i,j<i→lg (dg b N) i=lg (dg b M) i) (h:lg (dg b N) j<lg (dg b M) j):N<M:=by
 have:=lt_of_digit (okb_dg hb N) (by omega) h ha
 rwa[vl_dg hb,vl_dg hb] at this
theorem eq_digits {b N M:Nat} (hb:2≤b) (h:∀j,lg (dg b N) j=lg (dg b M) j):N=M:=by
 have:=vl_congr b h
 rwa[vl_dg hb,vl_dg hb] at this
end
section
end
section
theorem Rd.drop {w:World} {k:IntKind} {b off:Nat} {xs:List Nat} (h:Rd w k (some ⟨b,off,none⟩) xs) (n:Nat):Rd w k (some ⟨b,off+n,none⟩) (xs.drop n):=by
 refine⟨fun i hi=>?_⟩
 simp at hi
 obtain⟨b',off',ha,hlt,hc⟩:=h.cell (n+i) (by omega)
 simp at ha
 obtain⟨rfl,rfl⟩:=ha
 exact⟨b,off+n,rfl,hlt,by rw[lg_drop,Nat.add_assoc];exact hc⟩
end
end
section
section
theorem strim_any (b:Nat) (hb2:2≤b) (ad:Option Addr) (n cap:Nat) (xs:List Nat) (w:World) (hn:n=xs.length) (hr:Rd w .i64 ad xs) (ho:okb b xs) (hl:xs.length≤2199023255553) (hcap:xs.length≤cap) (hnil:ad=none→cap=0):
 Calls Tryz.prog 138 #[.slice ad n cap] w (RcutPost b w ad cap xs):=by
 subst hn
 go_enter Tryz.func138,Tryz.ntmps138
 go_wp2
 go_loop [3] (fun n=>∃k:Nat,k≤xs.length∧n= .int .i64 k∧Hid (∀i,k≤i→lg xs i=0)) (fun n=>(intOf n).toNat)
 case atStart=>exact⟨_,Nat.le_refl _,rfl,Lib.hid (fun i hi=>lg_out (by omega))⟩
 case round=>
  obtain⟨k,hk,rfl,hz⟩:=hrel
  by_cases hp:0<k
  ·obtain⟨b',off,rfl,hb,hc⟩:=hr.get (by omega)
   have hc:=hc (k-1) (by omega)
   clear hr hnil
   go_wp2
   ·have ht:((lg xs (k-1):Nat) == (0:Int))=true:=by assumption
    go_round
    case rel=>exact⟨k-1,by omega,by go_num,fun i hi=>by
     by_cases e:i=k-1
     ·subst e;simpa using ht
     ·exact hz i (by omega)⟩
    case measure=>simp[intOf];omega
   ·have ht:((lg xs (k-1):Nat) == (0:Int))=false:=by assumption
    go_ret
    exact rcut_end hb2 ho hk (fun _=>by simpa using ht) hz rfl
  ·obtain rfl:k=0:=by omega
   cases ad with
   |none=>
    have hc0:=hnil rfl
    subst hc0
    go_wp2
    go_ret
    exact rcut_end hb2 ho hk (fun h=>by omega) hz rfl
   |some a=>
    go_wp2
    go_ret
    exact rcut_end hb2 ho hk (fun h=>by omega) hz rfl
def DhPost (w:World) (N:Nat) (e:Ending) (w':World):Prop:=∃v,e= .returned v∧Dg w' .i64 65536 v N∧Below w.heap.size w w'
theorem strim_end {w0 wr:World} {L:List Nat} {ad:Option Addr} {cap N:Nat} (hok:okb 65536 L) (hv:vl 65536 L=N) (hrd:Rd wr .i64 ad L) (hc2:L.length≤cap) (hm2:cap≤maxLen) (hl:L.length≤1099511627776) (hn2:ad=none→cap=0) (hb:Below w0.heap.size w0 wr):
 DhPost w0 N (.returned (.slice ad (dl 65536 N) cap)) wr:=by
 subst hv
 have hpre:=hrd.take (dl 65536 (vl 65536 L))
 have hd2:=dl_vl_le (b:=65536) (by omega) hok
 rw[take_dl (by omega) hok] at hpre
 exact⟨_,rfl,⟨_,_,rfl,hpre,by rw[length_dg];omega,hm2,by rw[length_dg];omega,hn2⟩,hb⟩
theorem pow_half (j:Nat):(65536:Nat)^(2*j)=B32^j:=by rw[Nat.pow_mul];rfl
theorem dl_half {N m:Nat} (h0:0<m) (h1:2*(m-1)<dl 65536 N) (h2:dl 65536 N≤2*m):dl B32 N=m:=by
 have hp:0<N:=by
  by_cases h:N=0
  ·subst h;rw[dl_zero] at h1;omega
  ·omega
 obtain⟨j,rfl⟩:∃j,m=j+1:=⟨m-1,by omega⟩
 apply dl_eq B32_two
 ·rw[←pow_half]
  exact Nat.le_trans (Nat.pow_le_pow_right (by omega) (by simp only [Nat.add_sub_cancel] at h1;omega)) (pow_dl_le (b:=65536) (by omega) hp)
 ·rw[←pow_half]
  exact Nat.lt_of_lt_of_le (lt_dl (b:=65536) (by omega) N) (Nat.pow_le_pow_right (by omega) h2)
theorem limbs2_end {N j d:Nat} {L:List Nat} (hd:d=dl 65536 N) (h1:2*j<d+2) (h2:d≤2*j) (hl:L.length=j) (hdig:∀t,t<j→lg L t=lg (dg B32 N) t):L=dg B32 N:=by
 have hlen:dl B32 N=j:=by
  by_cases h0:0<j
  ·exact dl_half h0 (by omega) (by omega)
  ·have:N=0:=dl_eq_zero (b:=65536) (by omega) (by omega)
   subst this;rw[dl_zero];omega
 apply ext_lg
 ·rw[length_dg,hlen,hl]
 ·intro i hi;exact hdig i (by omega)
end
section
theorem canon {b:Nat} (hb:2≤b) {L:List Nat} (ho:okb b L) (h:L.length≤dl b (vl b L)):L=dg b (vl b L):=by
 have:=take_dl hb ho
 rwa[List.take_of_length_le h] at this
def SaddInv (w:World) (mx N M:Nat) (o c i:Value) (wr:World):Prop:=
 ∃(k cc:Nat) (L:List Nat),k≤mx∧i= .int .i64 k∧c= .int .i64 cc∧cc≤1∧L.length=k∧okb 65536 L∧Acc wr .i64 3 w.heap.size o L∧Below w.heap.size w wr∧
  vl 65536 L+cc*65536^k=vl 65536 ((dg 65536 N).take k)+vl 65536 ((dg 65536 M).take k)
theorem sadd_end0 {N M mx:Nat} {L:List Nat} (hok:okb 65536 L) (hl:L.length=mx) (h1:mx=dl 65536 N∨mx=dl 65536 M) (hv:vl 65536 L=N+M):L=dg 65536 (N+M):=by
 have:=canon (b:=65536) (by omega) hok (by
  rw[hv,hl]
  rcases h1 with h|h
  ·rw[h];exact dl_mono (by omega) (by omega)
  ·rw[h];exact dl_mono (by omega) (by omega))
 rwa[hv] at this
theorem sadd_end1 {N M mx:Nat} {L:List Nat} (hok:okb 65536 L) (hl:L.length=mx) (hv:vl 65536 L+1*65536^mx=N+M):L++[1]=dg 65536 (N+M):=by
 have hv2:vl 65536 (L++[1])=N+M:=by rw[vl_snoc,hl];exact hv
 have hn:norm (L++[1]):=by
  intro _
  rw[List.length_append,List.length_singleton,Nat.add_sub_cancel,lg_snoc];omega
 have:=dg_unique (b:=65536) (by omega) (okb_append hok (okb_one (by omega))) hn
 rw[hv2] at this
 exact this.symm
set_option maxRecDepth 100000 in
theorem sadd_any (v1 v2:Value) (N M:Nat) (w:World) (h1:Dg w .i64 65536 v1 N) (h2:Dg w .i64 65536 v2 M) (hb:dl 65536 N≤1000000∧dl 65536 M≤1000000):
 Calls Tryz.prog 171 #[v1,v2] w (DhPost w (N+M)):=by
 obtain⟨ad1,cap1,rfl,r1,c1,m1,l1,n1⟩:=h1
 obtain⟨ad2,cap2,rfl,r2,c2,m2,l2,n2⟩:=h2
 rw[length_dg] at l1 l2 c1 c2 ⊢
 rw[length_dg]
 obtain⟨i0,hi,hz0,hz1,hz2⟩:=info_parts Tryz.info3
 obtain⟨d1,hd1⟩:∃d1:Nat,d1=dl 65536 N:=⟨_,rfl⟩
 obtain⟨d2,hd2⟩:∃d2:Nat,d2=dl 65536 M:=⟨_,rfl⟩
 rw[←hd1,←hd2] at hb
 rw[←hd1] at c1 l1 ⊢
 rw[←hd2] at c2 l2 ⊢
 obtain⟨hb1,hb2⟩:=hb
 have HD1:=Lib.hid hd1;have HD2:=Lib.hid hd2
 clear hd1 hd2
 obtain⟨mx,hmx⟩:∃mx:Nat,mx=max d1 d2:=⟨_,rfl⟩
 have hm1:d1≤mx:=by omega
 have hm2:d2≤mx:=by omega
 have hml:mx≤1000000:=by omega
 have HMX:=Lib.hid (show mx=dl 65536 N∨mx=dl 65536 M from by rw[←HD1.out,←HD2.out];omega)
 have HMXX:=Lib.hid hmx
 clear hmx
 go_enter Tryz.func171,Tryz.ntmps171
 go_wp2
 go_loopw [5,6,7] (fun o c i wr=>SaddInv w mx N M o c i wr) (fun _ _ i _=>mx-(intOf i).toNat)
 case atStart=>exact⟨0,0,[],by omega,rfl,rfl,by omega,rfl,okb_nil _,Acc.empty w .i64 3 w.heap.size (Nat.le_refl _),(Below.refl _ _).alloc (Nat.le_refl _) _,by simp[vl]⟩
 case round=>
  obtain⟨k,cc,L,hk,rfl,rfl,hcc,hlen,hok,hacc,hbe,hmath⟩:=hrel
  have HM:=Lib.hid hmath;have HLN:=Lib.hid hlen
  have hll:L.length≤2199023255552:=by omega
  clear hmath hlen
  have x1:lg (dg 65536 N) k<65536:=lg_lt (okb_dg (b:=65536) (by omega) N) (by omega) k
  have x2:lg (dg 65536 M) k<65536:=lg_lt (okb_dg (b:=65536) (by omega) M) (by omega) k
  obtain⟨t,ht⟩:∃t:Nat,t=lg (dg 65536 N) k+lg (dg 65536 M) k+cc:=⟨_,rfl⟩
  have HT:=Lib.hid ht
  have htb:t≤131071:=by omega
  clear ht
  have hstep:=add_step (x:=lg (dg 65536 N) k) (y:=lg (dg 65536 M) k) HM.out
  rw[←HT.out] at hstep
  have HST:=Lib.hid hstep
  have hfin:k<mx→∀(o:Value) (w':World) (z zc:Int),Acc w' .i64 3 w.heap.size o (L++[t%65536])→Below w.heap.size wr w'→z=(k:Int)+1→zc=(t:Int)/65536→SaddInv w mx N M o (.int .i64 zc) (.int .i64 z) w':=by
   intro hkm o w' z zc ha2 hb2 hz hzc
   refine⟨k+1,t/65536,L++[t%65536],by omega,by rw[hz];rfl,by rw[hzc];rfl,by omega,by simp;exact HLN.out,okb_append hok (okb_one (Nat.mod_lt _ (by omega))),ha2,hbe.trans hb2,?_⟩
   rw[vl_snoc,HLN.out,vl_take_succ,vl_take_succ];exact HST.out
  have HF:=Lib.hid hfin
  clear hstep hfin
  by_cases hlt:k<mx
  ·have ways:(k<d1∧k<d2)∨(k<d1∧¬k<d2)∨(¬k<d1∧k<d2):=by have:=HMXX.out;omega
   rcases ways with⟨q1,q2⟩|⟨q1,q2⟩|⟨q1,q2⟩
   ·obtain⟨b,off,ha,_,hc⟩:=(r1.below hbe).get (by rw[length_dg,←HD1.out];omega)
    have hc:=hc k (by rw[length_dg,←HD1.out];exact q1)
    obtain⟨b',off',ha',_,hc'⟩:=(r2.below hbe).get (by rw[length_dg,←HD2.out];omega)
    have hc':=hc' k (by rw[length_dg,←HD2.out];exact q2)
    subst ha;subst ha'
    have et:(cc:Int)+(lg (dg 65536 N) k:Int)+(lg (dg 65536 M) k:Int)=(t:Int):=by have:=HT.out;omega
    clear r1 r2
    go_wp2_with (at_builtin;refine wp_acc wr rfl _ _ 36 rfl .i64 3 i0 8 Tryz.underlying36 hi hz0 hz1 hz2 (by decide) w.heap.size _ L hacc rfl _ (t%65536) ?_ rfl hll hbe.size ?_)
    ·omega
    ·intro v' w' hacc2 hbel2
     clear hacc
     go_wp2
     go_roundw
     case rel=>exact HF.out hlt _ _ _ _ hacc2 hbel2 rfl (by omega)
     case measure=>simp[intOf];omega
   ·obtain⟨b,off,ha,_,hc⟩:=(r1.below hbe).get (by rw[length_dg,←HD1.out];omega)
    have hc:=hc k (by rw[length_dg,←HD1.out];exact q1)
    subst ha
    have z2:=lg_out (xs:=dg 65536 M) (i:=k) (by rw[length_dg,←HD2.out];omega)
    have et:(cc:Int)+(lg (dg 65536 N) k:Int)=(t:Int):=by have:=HT.out;omega
    clear r1 r2 z2
    go_wp2_with (at_builtin;refine wp_acc wr rfl _ _ 36 rfl .i64 3 i0 8 Tryz.underlying36 hi hz0 hz1 hz2 (by decide) w.heap.size _ L hacc rfl _ (t%65536) ?_ rfl hll hbe.size ?_)
    ·omega
    ·intro v' w' hacc2 hbel2
     clear hacc
     go_wp2
     go_roundw
     case rel=>exact HF.out hlt _ _ _ _ hacc2 hbel2 rfl (by omega)
     case measure=>simp[intOf];omega
   ·obtain⟨b,off,ha,_,hc⟩:=(r2.below hbe).get (by rw[length_dg,←HD2.out];omega)
    have hc:=hc k (by rw[length_dg,←HD2.out];exact q2)
    subst ha
    have z2:=lg_out (xs:=dg 65536 N) (i:=k) (by rw[length_dg,←HD1.out];omega)
    have et:(cc:Int)+(lg (dg 65536 M) k:Int)=(t:Int):=by have:=HT.out;omega
    clear r1 r2 z2
    go_wp2_with (at_builtin;refine wp_acc wr rfl _ _ 36 rfl .i64 3 i0 8 Tryz.underlying36 hi hz0 hz1 hz2 (by decide) w.heap.size _ L hacc rfl _ (t%65536) ?_ rfl hll hbe.size ?_)
    ·omega
    ·intro v' w' hacc2 hbel2
     clear hacc
     go_wp2
     go_roundw
     case rel=>exact HF.out hlt _ _ _ _ hacc2 hbel2 rfl (by omega)
     case measure=>simp[intOf];omega
  ·obtain rfl:k=mx:=by omega
   have hs:=HM.out
   rw[vl_take_all (by rw[length_dg,←HD1.out];omega),vl_take_all (by rw[length_dg,←HD2.out];omega),vl_dg (by omega),vl_dg (by omega)] at hs
   clear r1 r2
   by_cases hc0:cc=0
   ·have HE:=Lib.hid (sadd_end0 hok HLN.out HMX.out (by rw[hc0] at hs;omega))
    clear hs
    subst hc0
    go_wp2
    go_ret
    exact⟨_,rfl,by rw[HE.out] at hacc;exact hacc.sq (by rw[←HE.out,HLN.out];omega),hbe⟩
   ·obtain rfl:cc=1:=by omega
    have HE:=Lib.hid (sadd_end1 hok HLN.out hs)
    clear hs hc0
    go_wp2_with (at_builtin;refine wp_acc wr rfl _ _ 36 rfl .i64 3 i0 8 Tryz.underlying36 hi hz0 hz1 hz2 (by decide) w.heap.size _ L hacc rfl _ 1 rfl rfl hll hbe.size ?_)
    intro v' w' hacc2 hbel2
    clear hacc
    go_wp2
    go_ret
    rw[HE.out] at hacc2
    exact⟨_,rfl,hacc2.sq (by rw[←HE.out];simp;rw[HLN.out];omega),hbe.trans hbel2⟩
def TimesInv (w:World) (d up m N:Nat) (o c i:Value) (wr:World):Prop:=
 ∃(k cc:Nat) (L:List Nat),k≤d∧i= .int .i64 k∧c= .int .i64 cc∧cc<65536∧L.length=up+k∧okb 65536 L∧Acc wr .i64 3 w.heap.size o L∧Below w.heap.size w wr∧
  vl 65536 L+cc*65536^(up+k)=vl 65536 ((dg 65536 N).take k)*m*65536^up
def ZerosInv (w:World) (up:Nat) (o i:Value) (wr:World):Prop:=
 ∃k:Nat,k≤up∧i= .int .i64 k∧Acc wr .i64 3 w.heap.size o (List.replicate k 0)∧Below w.heap.size w wr
theorem vl_zeros (b k:Nat):vl b (List.replicate k 0)=0:=by
 induction k with
 |zero=>rfl
 |succ k ih=>rw[List.replicate_succ];simp only [vl];rw[ih];simp
theorem times_step {L V x m c e up:Nat} (h:L+c*65536^(up+e)=V*m*65536^up):
 L+(c+x*m)%65536*65536^(up+e)+(c+x*m)/65536*65536^(up+(e+1))=(V+x*65536^e)*m*65536^up:=by
 have h2:=carry_arith 65536 (65536^(up+e)) (c+x*m)
 rw[←Nat.pow_succ,Nat.add_mul] at h2
 have h3:x*m*65536^(up+e)=x*65536^e*m*65536^up:=by
  rw[Nat.pow_add,Nat.mul_comm (65536^up),←Nat.mul_assoc,Nat.mul_assoc x,Nat.mul_comm m,←Nat.mul_assoc]
 rw[Nat.add_mul,Nat.add_mul,←h3,show up+(e+1)=up+e+1 from by omega]
 simp only [Nat.succ_eq_add_one] at h2
 omega
set_option maxRecDepth 100000 in
theorem stimes_any (v1:Value) (N m up:Nat) (w:World) (h1:Dg w .i64 65536 v1 N) (hm:m<65536) (hup:up≤1000000) (hd:dl 65536 N≤1000000):
 Calls Tryz.prog 174 #[v1,.int .i64 m,.int .i64 up] w (DhPost w (N*m*65536^up)):=by
 obtain⟨ad1,cap1,rfl,r1,c1,m1,l1,n1⟩:=h1
 rw[length_dg] at l1 c1 ⊢
 obtain⟨i0,hi,hz0,hz1,hz2⟩:=info_parts Tryz.info3
 obtain⟨d,hdd⟩:∃d:Nat,d=dl 65536 N:=⟨_,rfl⟩
 rw[←hdd] at c1 l1 hd ⊢
 have HD:=Lib.hid hdd;clear hdd
 go_enter Tryz.func174,Tryz.ntmps174
 go_wp2
 go_loopw [7,8] (fun o i wr=>ZerosInv w up o i wr) (fun _ i _=>up-(intOf i).toNat)
 case atStart=>exact⟨0,Nat.zero_le _,rfl,Acc.empty w .i64 3 w.heap.size (Nat.le_refl _),(Below.refl _ _).alloc (Nat.le_refl _) _⟩
 case round=>
  obtain⟨k,hk,rfl,hacc,hbe⟩:=hrel
  by_cases hlt:k<up
  ·go_wp2_with (at_builtin;refine wp_acc wr rfl _ _ 36 rfl .i64 3 i0 8 Tryz.underlying36 hi hz0 hz1 hz2 (by decide) w.heap.size _ (List.replicate k 0) hacc rfl _ 0 rfl rfl ?_ hbe.size ?_)
   ·simp;omega
   ·intro v' w' hacc2 hbel2
    clear hacc
    go_wp2
    go_roundw
    case rel=>exact⟨k+1,by omega,by go_num,by rw[show List.replicate (k+1) 0=List.replicate k 0++[0] from List.replicate_succ'];exact hacc2,hbe.trans hbel2⟩
    case measure=>simp[intOf];omega
  ·obtain rfl:k=up:=by omega
   go_wp2
   go_loopw [7,9,23] (fun o c i wr=>TimesInv w d k m N o c i wr) (fun _ _ i _=>d-(intOf i).toNat)
   case atStart=>exact⟨0,0,_,Nat.zero_le _,rfl,rfl,by omega,by simp,okb_replicate (by omega) _,hacc,hbe,by rw[vl_zeros];simp[vl]⟩
   case round=>
    obtain⟨u,cc,L,hu,rfl,rfl,hcc,hlen,hok,hacc',hbe',hmath⟩:=hrel
    have HM:=Lib.hid hmath;have HLN:=Lib.hid hlen
    have hll:L.length≤2199023255552:=by omega
    clear hmath hlen hacc
    by_cases hlu:u<d
    ·obtain⟨b,off,ha,_,hc⟩:=(r1.below hbe').get (by rw[length_dg,←HD.out];omega)
     have hc:=hc u (by rw[length_dg,←HD.out];exact hlu)
     have lx:lg (dg 65536 N) u<65536:=lg_lt (okb_dg (b:=65536) (by omega) N) (by omega) u
     subst ha
     obtain⟨p,hp⟩:∃p,p=lg (dg 65536 N) u*m:=⟨_,rfl⟩
     have hpb:p≤4294836225:=by rw[hp];exact Nat.mul_le_mul (show _≤65535 by omega) (show m≤65535 by omega)
     have ep:(lg (dg 65536 N) u:Int)*(m:Int)=(p:Int):=by rw[hp];push_cast;rfl
     have hst:=times_step (x:=lg (dg 65536 N) u) HM.out
     rw[←hp] at hst
     have HST:=Lib.hid hst
     clear hst hp r1
     go_wp2_with (at_builtin;refine wp_acc _ rfl _ _ 36 rfl .i64 3 i0 8 Tryz.underlying36 hi hz0 hz1 hz2 (by decide) w.heap.size _ L hacc' rfl _ ((cc+p)%65536) ?_ rfl hll hbe'.size ?_)
     ·omega
     ·intro v' w' hacc2 hbel2
      clear hacc'
      go_wp2
      go_roundw
      case rel=>
       refine⟨u+1,(cc+p)/65536,L++[(cc+p)%65536],by omega,by go_num,by go_num,by omega,by simp;rw[HLN.out];omega,okb_append hok (okb_one (Nat.mod_lt _ (by omega))),hacc2,hbe'.trans hbel2,?_⟩
       rw[vl_snoc,HLN.out,vl_take_succ];exact HST.out
      case measure=>simp[intOf];omega
    ·obtain rfl:u=d:=by omega
     have hs:=HM.out
     rw[vl_take_all (by rw[length_dg,←HD.out];omega),vl_dg (by omega)] at hs
     clear r1
     by_cases hc0:0<cc
     ·have HV:=Lib.hid (show vl 65536 (L++[cc])=N*m*65536^k from by rw[vl_snoc,HLN.out];exact hs)
      clear hs
      have hokc:=okb_append hok (okb_one hcc)
      go_wp2_with (at_builtin;refine wp_acc _ rfl _ _ 36 rfl .i64 3 i0 8 Tryz.underlying36 hi hz0 hz1 hz2 (by decide) w.heap.size _ L hacc' rfl _ cc rfl rfl hll hbe'.size ?_)
      intro v' w' hacc2 hbel2
      have hl4:(L++[cc]).length ≤1099511627776:=by rw[List.length_append,HLN.out];simp;omega
      have hsq:=hacc2.sq hl4
      have hbb:=hbe'.trans hbel2
      clear hacc' hacc2
      go_wp2_with fail
      obtain⟨ad3,cap3,hv3,hrd,hc3,hm3,hl3,hn3⟩:=hsq
      rw[hv3]
      refine(strim_any 65536 (by omega) _ _ _ (L++[cc]) _ rfl hrd hokc (by omega) hc3 hn3).mono ?_
      rintro e w1 ⟨rfl,hw⟩
      have hw:=hw.symm;subst hw
      rw[HV.out]
      have hend:=strim_end hokc HV.out hrd hc3 hm3 hl4 hn3 hbb
      clear hv3
      go_wp2
      go_ret
      exact hend
     ·obtain rfl:cc=0:=by omega
      have HV:=Lib.hid (show vl 65536 L=N*m*65536^k from by omega)
      have hl4:L.length≤1099511627776:=by rw[HLN.out];omega
      have hsq:=hacc'.sq hl4
      clear hs hacc'
      go_wp2_with fail
      obtain⟨ad3,cap3,hv3,hrd,hc3,hm3,hl3,hn3⟩:=hsq
      rw[hv3]
      refine(strim_any 65536 (by omega) _ _ _ L _ rfl hrd hok (by omega) hc3 hn3).mono ?_
      rintro e w1 ⟨rfl,hw⟩
      have hw:=hw.symm;subst hw
      rw[HV.out]
      have hend:=strim_end hok HV.out hrd hc3 hm3 hl4 hn3 hbe'
      clear hv3
      go_wp2
      go_ret
      exact hend
end
end
end Go.Proofs.YtnljadejcfgmaaaGreatDoor
