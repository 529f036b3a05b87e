import Derived.Test.YtgdpkknapcgcbaaGreatDoorKA7
import Derived.Deep.DeepCutAuto
namespace Go.Proofs.YtgdpkknapcgcbaaGreatDoor
open Go.RowKit
set_option maxRecDepth 100000
set_option linter.unusedVariables false
set_option maxHeartbeats 8000000
section
section
theorem hC (b:Nat) (hb2:2<=b) (ad:Option Addr) (n cap:Nat) (xs:List Nat) (w:World) (hn:n=xs.length) (hr:Rd w .i64 ad xs) (ho:okb b xs) (hl:xs.length<=2199023255553) (hcap:xs.length<=cap) (hnil:ad=none->cap=0):
 CP 135 #[.slice ad n cap] w (tP b w ad cap xs):=by
 subst hn
 go_enter Tryz.func135,Tryz.ntmps135
 go_wp2
 go_loop [3] (fun n=>∃k:Nat,k<=xs.length/\n= .int .i64 k/\Hid (∀i,k<=i->lg xs i=0)) (fun n=>(intOf n).toNat)
 case atStart=>exact⟨_,Nat.le_refl _,rfl,Lib.hid (fun i hi=>dH (by omega))⟩
 case round=>
  obtain⟨k,hk,rfl,hz⟩:=hrel
  by_cases hp:0<k
  ·obtain⟨b',off,rfl,hb,hc⟩:=hr.get (by omega)
   have hc:=hc (k-1) (by omega)
   clear hr hnil
   go_wp2
   ·have ht:((lg xs (k-1):Nat) == (0:Int))=true:=by assumption
    go_round
    case rel=>exact⟨k-1,by omega,by go_num,fun i hi=>by
     by_cases e:i=k-1
     ·subst e;simpa using ht
     ·exact hz i (by omega)⟩
    case measure=>simp[intOf];omega
   ·have ht:((lg xs (k-1):Nat) == (0:Int))=false:=by assumption
    go_ret
    exact pS hb2 ho hk (fun _=>by simpa using ht) hz rfl
  ·obtain rfl:k=0:=by omega
   cases ad with
   |none=>
    have hc0:=hnil rfl
    subst hc0
    go_wp2
    go_ret
    exact pS hb2 ho hk (fun h=>by omega) hz rfl
   |some a=>
    go_wp2
    go_ret
    exact pS hb2 ho hk (fun h=>by omega) hz rfl
def gT (w:World) (N:Nat) (e:Ending) (w':World):Prop:=∃v,e= .returned v/\Dg w' .i64 65536 v N/\Below w.heap.size w w'
theorem kO {w0 wr:World} {L:List Nat} {ad:Option Addr} {cap N:Nat} (hok:okb 65536 L) (hv:vl 65536 L=N) (hrd:Rd wr .i64 ad L) (hc2:L.length<=cap) (hm2:cap<=maxLen) (hl:L.length<=1099511627776) (hn2:ad=none->cap=0) (hb:Below w0.heap.size w0 wr):
 gT w0 N (.returned (.slice ad (dl 65536 N) cap)) wr:=by
 subst hv
 have hpre:=hrd.take (dl 65536 (vl 65536 L))
 have hd2:=bT (b:=65536) (by omega) hok
 rw[xZ (by omega) hok] at hpre
 exact⟨_,rfl,⟨_,_,rfl,hpre,by rw[aq];omega,hm2,by rw[aq];omega,hn2⟩,hb⟩
theorem Ez (j:Nat):(65536:Nat)^(2*j)=B32^j:=by rw[Nat.pow_mul];rfl
theorem Br {L:List Nat} {j x T:Nat} (hl:L.length=2*j) (hv:vl 65536 L=T):vl 65536 (L++[x%65536,x/65536])=T+x*B32^j:=by
 rw[nL,hv,hl,Ez]
 simp only [vl,Nat.mul_zero,Nat.add_zero]
 rw[Nat.mod_add_div,Nat.mul_comm]
def H0 (w:World) (xs:List Nat) (o i:Value) (wr:World):Prop:=
 ∃(j:Nat) (L:List Nat),j<=xs.length/\i= .int .i64 j/\Acc wr .i64 3 w.heap.size o L/\okb 65536 L/\L.length=2*j/\vl 65536 L=vl B32 (xs.take j)/\Below w.heap.size w wr
theorem FW (w:World) (x:Nat) (T:TypeId):Row (w.alloc (.cells #[.int .i64 ((x:Int)%65536),.int .i64 ((x:Int)/65536)] T)) .i64 T w.heap.size w.heap.size 2 [x%65536,x/65536]:=
 ⟨World.ownsRow_lit w #[.int .i64 ((x:Int)%65536),.int .i64 ((x:Int)/65536)] 2 (Nat.le_refl _) (by unfold maxLen;omega) (by simp)⟩
theorem sM (v:Value) (xs:List Nat) (w:World) (h:Sq w .u32 v xs) (ho:okb B32 xs) (hl:xs.length<=1073741824):
 CP 68 #[v] w (gT w (vl B32 xs)):=by
 obtain⟨ad,cap,rfl,hr,_,_,_,_⟩:=h
 obtain⟨i0,hi,hz0,hz1,hz2⟩:=info_parts Tryz.info3
 go_enter Tryz.func68,Tryz.ntmps68
 go_wp2
 go_loopw [3,9] (fun o i wr=>H0 w xs o i wr) (fun _ i _=>xs.length-(intOf i).toNat)
 case atStart=>exact⟨0,[],Nat.zero_le _,rfl,Acc.empty w .i64 3 w.heap.size (Nat.le_refl _),lr _,rfl,by simp[vl],(Below.refl _ _).alloc (Nat.le_refl _) _⟩
 case round=>
  obtain⟨j,L,hj,rfl,hacc,hok,hlen,hv,hbe⟩:=hrel
  have HV:=Lib.hid hv;have HLN:=Lib.hid hlen
  have hll:L.length<=1099511627778:=by omega
  clear hv hlen
  by_cases hlt:j<xs.length
  ·obtain⟨b,off,ha,hbs,hcx⟩:=(hr.below hbe).get (by omega)
   have hcx:=hcx j hlt
   have lx:lg xs j<4294967296:=cC ho aN j
   have HT:=Lib.hid (a5 B32 xs j)
   have HST:=Lib.hid (Br (x:=lg xs j) HLN.out HV.out)
   have hrow:=FW wr (lg xs j) 3
   have hac:=hacc.below ((Below.refl wr.heap.size wr).alloc (Nat.le_refl _) (.cells #[.int .i64 ((lg xs j:Int)%65536),.int .i64 ((lg xs j:Int)/65536)] 3))
   have hb2:=hbe.alloc hbe.size (.cells #[.int .i64 ((lg xs j:Int)%65536),.int .i64 ((lg xs j:Int)/65536)] 3)
   have HR:=Lib.hid hr
   subst ha
   clear hr
   go_wp2_with (at_builtin;refine nP _ rfl _ _ 41 rfl .i64 3 i0 8 Tryz.underlying41 hi hz0 hz1 hz2 (by decide) w.heap.size _ L hac rfl ⟨wr.heap.size,0,none⟩ 2 2 [lg xs j%65536,lg xs j/65536] rfl rfl hrow.rd hll (by simp) hb2.size ?_)
   intro v' w' hacc2 hbel2 _
   have hb3:=hb2.trans hbel2
   clear hacc hac hrow hb2 hbel2
   go_wp2
   go_roundw
   case rel=>exact⟨j+1,_,by omega,by go_num,hacc2,gI hok (by intro x hx;simp at hx;omega),by simp;rw[HLN.out];omega,by rw[HST.out,HT.out],hb3⟩
   case measure=>simp[intOf];omega
  ·obtain rfl:j=xs.length:=by omega
   have hval:=HV.out
   rw[List.take_length] at hval
   have HVAL:=Lib.hid hval
   have hsq:=hacc.sq (by rw[HLN.out];omega)
   have hl4:L.length<=1099511627776:=by rw[HLN.out];omega
   clear hval hr hacc
   go_wp2_with fail
   obtain⟨ad3,cap3,hv3,hrd,hc3,hm3,hl3,hn3⟩:=hsq
   rw[hv3]
   refine(hC 65536 (by omega) _ _ _ L _ rfl hrd hok (by omega) hc3 hn3).mono ?_
   rintro e w1 ⟨rfl,hw⟩
   have hw:=hw.symm;subst hw
   rw[HVAL.out]
   have hend:=kO hok HVAL.out hrd hc3 hm3 hl4 hn3 hbe
   clear hv3
   go_wp2
   go_ret
   exact hend
end
section
theorem KA {b:Nat} (hb:2<=b) {L:List Nat} (ho:okb b L) (h:L.length<=dl b (vl b L)):L=dg b (vl b L):=by
 have:=xZ hb ho
 rwa[List.take_of_length_le h] at this
def wH (w:World) (mx N M:Nat) (o c i:Value) (wr:World):Prop:=
 ∃(k cc:Nat) (L:List Nat),k<=mx/\i= .int .i64 k/\c= .int .i64 cc/\cc<=1/\L.length=k/\okb 65536 L/\Acc wr .i64 3 w.heap.size o L/\Below w.heap.size w wr/\
  vl 65536 L+cc*65536^k=vl 65536 ((dg 65536 N).take k)+vl 65536 ((dg 65536 M).take k)
theorem Bl {N M mx:Nat} {L:List Nat} (hok:okb 65536 L) (hl:L.length=mx) (h1:mx=dl 65536 N\/mx=dl 65536 M) (hv:vl 65536 L=N+M):L=dg 65536 (N+M):=by
 have:=KA (b:=65536) (by omega) hok (by
  rw[hv,hl]
  rcases h1 with h|h
  ·rw[h];exact gD (by omega) (by omega)
  ·rw[h];exact gD (by omega) (by omega))
 rwa[hv] at this
theorem Bc {N M mx:Nat} {L:List Nat} (hok:okb 65536 L) (hl:L.length=mx) (hv:vl 65536 L+1*65536^mx=N+M):L++[1]=dg 65536 (N+M):=by
 have hv2:vl 65536 (L++[1])=N+M:=by rw[iS,hl];exact hv
 have hn:norm (L++[1]):=by
  intro _
  rw[List.length_append,List.length_singleton,Nat.add_sub_cancel,GD];omega
 have:=na (b:=65536) (by omega) (gI hok (jM (by omega))) hn
 rw[hv2] at this
 exact this.symm
set_option maxRecDepth 100000 in
theorem pN (v1 v2:Value) (N M:Nat) (w:World) (h1:Dg w .i64 65536 v1 N) (h2:Dg w .i64 65536 v2 M) (hb:dl 65536 N<=1000000/\dl 65536 M<=1000000):
 CP 193 #[v1,v2] w (gT w (N+M)):=by
 obtain⟨ad1,cap1,rfl,r1,c1,m1,l1,n1⟩:=h1
 obtain⟨ad2,cap2,rfl,r2,c2,m2,l2,n2⟩:=h2
 rw[aq] at l1 l2 c1 c2 ⊢
 rw[aq]
 obtain⟨i0,hi,hz0,hz1,hz2⟩:=info_parts Tryz.info3
 obtain⟨d1,hd1⟩:∃d1:Nat,d1=dl 65536 N:=⟨_,rfl⟩
 obtain⟨d2,hd2⟩:∃d2:Nat,d2=dl 65536 M:=⟨_,rfl⟩
 rw[<-hd1,<-hd2] at hb
 rw[<-hd1] at c1 l1 ⊢
 rw[<-hd2] at c2 l2 ⊢
 obtain⟨hb1,hb2⟩:=hb
 have HD1:=Lib.hid hd1;have HD2:=Lib.hid hd2
 clear hd1 hd2
 obtain⟨mx,hmx⟩:∃mx:Nat,mx=max d1 d2:=⟨_,rfl⟩
 have hm1:d1<=mx:=by omega
 have hm2:d2<=mx:=by omega
 have hml:mx<=1000000:=by omega
 have HMX:=Lib.hid (show mx=dl 65536 N\/mx=dl 65536 M from by rw[<-HD1.out,<-HD2.out];omega)
 have HMXX:=Lib.hid hmx
 clear hmx
 go_enter Tryz.func193,Tryz.ntmps193
 go_wp2
 go_loopw [5,6,7] (fun o c i wr=>wH w mx N M o c i wr) (fun _ _ i _=>mx-(intOf i).toNat)
 case atStart=>exact⟨0,0,[],by omega,rfl,rfl,by omega,rfl,lr _,Acc.empty w .i64 3 w.heap.size (Nat.le_refl _),(Below.refl _ _).alloc (Nat.le_refl _) _,by simp[vl]⟩
 case round=>
  obtain⟨k,cc,L,hk,rfl,rfl,hcc,hlen,hok,hacc,hbe,hmath⟩:=hrel
  have HM:=Lib.hid hmath;have HLN:=Lib.hid hlen
  have hll:L.length<=2199023255552:=by omega
  clear hmath hlen
  have x1:lg (dg 65536 N) k<65536:=cC (bM (b:=65536) (by omega) N) (by omega) k
  have x2:lg (dg 65536 M) k<65536:=cC (bM (b:=65536) (by omega) M) (by omega) k
  obtain⟨t,ht⟩:∃t:Nat,t=lg (dg 65536 N) k+lg (dg 65536 M) k+cc:=⟨_,rfl⟩
  have HT:=Lib.hid ht
  have htb:t<=131071:=by omega
  clear ht
  have hstep:=vg (x:=lg (dg 65536 N) k) (y:=lg (dg 65536 M) k) HM.out
  rw[<-HT.out] at hstep
  have HST:=Lib.hid hstep
  have hfin:k<mx->∀(o:Value) (w':World) (z zc:Int),Acc w' .i64 3 w.heap.size o (L++[t%65536])->Below w.heap.size wr w'->z=(k:Int)+1->zc=(t:Int)/65536->wH w mx N M o (.int .i64 zc) (.int .i64 z) w':=by
   intro hkm o w' z zc ha2 hb2 hz hzc
   refine⟨k+1,t/65536,L++[t%65536],by omega,by rw[hz];rfl,by rw[hzc];rfl,by omega,by simp;exact HLN.out,gI hok (jM (Nat.mod_lt _ (by omega))),ha2,hbe.trans hb2,?_⟩
   rw[iS,HLN.out,a5,a5];exact HST.out
  have HF:=Lib.hid hfin
  clear hstep hfin
  by_cases hlt:k<mx
  ·have ways:(k<d1/\k<d2)\/(k<d1/\¬k<d2)\/(¬k<d1/\k<d2):=by have:=HMXX.out;omega
   rcases ways with⟨q1,q2⟩|⟨q1,q2⟩|⟨q1,q2⟩
   ·obtain⟨b,off,ha,_,hc⟩:=(r1.below hbe).get (by rw[aq,<-HD1.out];omega)
    have hc:=hc k (by rw[aq,<-HD1.out];exact q1)
    obtain⟨b',off',ha',_,hc'⟩:=(r2.below hbe).get (by rw[aq,<-HD2.out];omega)
    have hc':=hc' k (by rw[aq,<-HD2.out];exact q2)
    subst ha;subst ha'
    have et:(cc:Int)+(lg (dg 65536 N) k:Int)+(lg (dg 65536 M) k:Int)=(t:Int):=by have:=HT.out;omega
    clear r1 r2
    go_wp2_with (at_builtin;refine fB wr rfl _ _ 41 rfl .i64 3 i0 8 Tryz.underlying41 hi hz0 hz1 hz2 (by decide) w.heap.size _ L hacc rfl _ (t%65536) ?_ rfl hll hbe.size ?_)
    ·omega
    ·intro v' w' hacc2 hbel2
     clear hacc
     go_wp2
     go_roundw
     case rel=>exact HF.out hlt _ _ _ _ hacc2 hbel2 rfl (by omega)
     case measure=>simp[intOf];omega
   ·obtain⟨b,off,ha,_,hc⟩:=(r1.below hbe).get (by rw[aq,<-HD1.out];omega)
    have hc:=hc k (by rw[aq,<-HD1.out];exact q1)
    subst ha
    have z2:=dH (xs:=dg 65536 M) (i:=k) (by rw[aq,<-HD2.out];omega)
    have et:(cc:Int)+(lg (dg 65536 N) k:Int)=(t:Int):=by have:=HT.out;omega
    clear r1 r2 z2
    go_wp2_with (at_builtin;refine fB wr rfl _ _ 41 rfl .i64 3 i0 8 Tryz.underlying41 hi hz0 hz1 hz2 (by decide) w.heap.size _ L hacc rfl _ (t%65536) ?_ rfl hll hbe.size ?_)
    ·omega
    ·intro v' w' hacc2 hbel2
     clear hacc
     go_wp2
     go_roundw
     case rel=>exact HF.out hlt _ _ _ _ hacc2 hbel2 rfl (by omega)
     case measure=>simp[intOf];omega
   ·obtain⟨b,off,ha,_,hc⟩:=(r2.below hbe).get (by rw[aq,<-HD2.out];omega)
    have hc:=hc k (by rw[aq,<-HD2.out];exact q2)
    subst ha
    have z2:=dH (xs:=dg 65536 N) (i:=k) (by rw[aq,<-HD1.out];omega)
    have et:(cc:Int)+(lg (dg 65536 M) k:Int)=(t:Int):=by have:=HT.out;omega
    clear r1 r2 z2
    go_wp2_with (at_builtin;refine fB wr rfl _ _ 41 rfl .i64 3 i0 8 Tryz.underlying41 hi hz0 hz1 hz2 (by decide) w.heap.size _ L hacc rfl _ (t%65536) ?_ rfl hll hbe.size ?_)
    ·omega
    ·intro v' w' hacc2 hbel2
     clear hacc
     go_wp2
     go_roundw
     case rel=>exact HF.out hlt _ _ _ _ hacc2 hbel2 rfl (by omega)
     case measure=>simp[intOf];omega
  ·obtain rfl:k=mx:=by omega
   have hs:=HM.out
   rw[bA (by rw[aq,<-HD1.out];omega),bA (by rw[aq,<-HD2.out];omega),bJ (by omega),bJ (by omega)] at hs
   clear r1 r2
   by_cases hc0:cc=0
   ·have HE:=Lib.hid (Bl hok HLN.out HMX.out (by rw[hc0] at hs;omega))
    clear hs
    subst hc0
    go_wp2
    go_ret
    exact⟨_,rfl,by rw[HE.out] at hacc;exact hacc.sq (by rw[<-HE.out,HLN.out];omega),hbe⟩
   ·obtain rfl:cc=1:=by omega
    have HE:=Lib.hid (Bc hok HLN.out hs)
    clear hs hc0
    go_wp2_with (at_builtin;refine fB wr rfl _ _ 41 rfl .i64 3 i0 8 Tryz.underlying41 hi hz0 hz1 hz2 (by decide) w.heap.size _ L hacc rfl _ 1 rfl rfl hll hbe.size ?_)
    intro v' w' hacc2 hbel2
    clear hacc
    go_wp2
    go_ret
    rw[HE.out] at hacc2
    exact⟨_,rfl,hacc2.sq (by rw[<-HE.out];simp;rw[HLN.out];omega),hbe.trans hbel2⟩
def CZ (w:World) (d up m N:Nat) (o c i:Value) (wr:World):Prop:=
 ∃(k cc:Nat) (L:List Nat),k<=d/\i= .int .i64 k/\c= .int .i64 cc/\cc<65536/\L.length=up+k/\okb 65536 L/\Acc wr .i64 3 w.heap.size o L/\Below w.heap.size w wr/\
  vl 65536 L+cc*65536^(up+k)=vl 65536 ((dg 65536 N).take k)*m*65536^up
def CJ (w:World) (up:Nat) (o i:Value) (wr:World):Prop:=
 ∃k:Nat,k<=up/\i= .int .i64 k/\Acc wr .i64 3 w.heap.size o (List.replicate k 0)/\Below w.heap.size w wr
theorem Cg (b k:Nat):vl b (List.replicate k 0)=0:=by
 induction k with
 |zero=>rfl
 |succ k ih=>rw[List.replicate_succ];simp only [vl];rw[ih];simp
theorem zH {L V x m c e up:Nat} (h:L+c*65536^(up+e)=V*m*65536^up):
 L+(c+x*m)%65536*65536^(up+e)+(c+x*m)/65536*65536^(up+(e+1))=(V+x*65536^e)*m*65536^up:=by
 have h2:=gS 65536 (65536^(up+e)) (c+x*m)
 rw[<-Nat.pow_succ,Nat.add_mul] at h2
 have h3:x*m*65536^(up+e)=x*65536^e*m*65536^up:=by
  rw[Nat.pow_add,Nat.mul_comm (65536^up),<-Nat.mul_assoc,Nat.mul_assoc x,Nat.mul_comm m,<-Nat.mul_assoc]
 rw[Nat.add_mul,Nat.add_mul,<-h3,show up+(e+1)=up+e+1 from by omega]
 simp only [Nat.succ_eq_add_one] at h2
 omega
set_option maxRecDepth 100000 in
theorem mz (v1:Value) (N m up:Nat) (w:World) (h1:Dg w .i64 65536 v1 N) (hm:m<65536) (hup:up<=1000000) (hd:dl 65536 N<=1000000):
 CP 196 #[v1,.int .i64 m,.int .i64 up] w (gT w (N*m*65536^up)):=by
 obtain⟨ad1,cap1,rfl,r1,c1,m1,l1,n1⟩:=h1
 rw[aq] at l1 c1 ⊢
 obtain⟨i0,hi,hz0,hz1,hz2⟩:=info_parts Tryz.info3
 obtain⟨d,hdd⟩:∃d:Nat,d=dl 65536 N:=⟨_,rfl⟩
 rw[<-hdd] at c1 l1 hd ⊢
 have HD:=Lib.hid hdd;clear hdd
 go_enter Tryz.func196,Tryz.ntmps196
 go_wp2
 go_loopw [7,8] (fun o i wr=>CJ w up o i wr) (fun _ i _=>up-(intOf i).toNat)
 case atStart=>exact⟨0,Nat.zero_le _,rfl,Acc.empty w .i64 3 w.heap.size (Nat.le_refl _),(Below.refl _ _).alloc (Nat.le_refl _) _⟩
 case round=>
  obtain⟨k,hk,rfl,hacc,hbe⟩:=hrel
  by_cases hlt:k<up
  ·go_wp2_with (at_builtin;refine fB wr rfl _ _ 41 rfl .i64 3 i0 8 Tryz.underlying41 hi hz0 hz1 hz2 (by decide) w.heap.size _ (List.replicate k 0) hacc rfl _ 0 rfl rfl ?_ hbe.size ?_)
   ·simp;omega
   ·intro v' w' hacc2 hbel2
    clear hacc
    go_wp2
    go_roundw
    case rel=>exact⟨k+1,by omega,by go_num,by rw[show List.replicate (k+1) 0=List.replicate k 0++[0] from List.replicate_succ'];exact hacc2,hbe.trans hbel2⟩
    case measure=>simp[intOf];omega
  ·obtain rfl:k=up:=by omega
   go_wp2
   go_loopw [7,9,23] (fun o c i wr=>CZ w d k m N o c i wr) (fun _ _ i _=>d-(intOf i).toNat)
   case atStart=>exact⟨0,0,_,Nat.zero_le _,rfl,rfl,by omega,by simp,fD (by omega) _,hacc,hbe,by rw[Cg];simp[vl]⟩
   case round=>
    obtain⟨u,cc,L,hu,rfl,rfl,hcc,hlen,hok,hacc',hbe',hmath⟩:=hrel
    have HM:=Lib.hid hmath;have HLN:=Lib.hid hlen
    have hll:L.length<=2199023255552:=by omega
    clear hmath hlen hacc
    by_cases hlu:u<d
    ·obtain⟨b,off,ha,_,hc⟩:=(r1.below hbe').get (by rw[aq,<-HD.out];omega)
     have hc:=hc u (by rw[aq,<-HD.out];exact hlu)
     have lx:lg (dg 65536 N) u<65536:=cC (bM (b:=65536) (by omega) N) (by omega) u
     subst ha
     obtain⟨p,hp⟩:∃p,p=lg (dg 65536 N) u*m:=⟨_,rfl⟩
     have hpb:p<=4294836225:=by rw[hp];exact Nat.mul_le_mul (show _<=65535 by omega) (show m<=65535 by omega)
     have ep:(lg (dg 65536 N) u:Int)*(m:Int)=(p:Int):=by rw[hp];push_cast;rfl
     have hst:=zH (x:=lg (dg 65536 N) u) HM.out
     rw[<-hp] at hst
     have HST:=Lib.hid hst
     clear hst hp r1
     go_wp2_with (at_builtin;refine fB _ rfl _ _ 41 rfl .i64 3 i0 8 Tryz.underlying41 hi hz0 hz1 hz2 (by decide) w.heap.size _ L hacc' rfl _ ((cc+p)%65536) ?_ rfl hll hbe'.size ?_)
     ·omega
     ·intro v' w' hacc2 hbel2
      clear hacc'
      go_wp2
      go_roundw
      case rel=>
       refine⟨u+1,(cc+p)/65536,L++[(cc+p)%65536],by omega,by go_num,by go_num,by omega,by simp;rw[HLN.out];omega,gI hok (jM (Nat.mod_lt _ (by omega))),hacc2,hbe'.trans hbel2,?_⟩
       rw[iS,HLN.out,a5];exact HST.out
      case measure=>simp[intOf];omega
    ·obtain rfl:u=d:=by omega
     have hs:=HM.out
     rw[bA (by rw[aq,<-HD.out];omega),bJ (by omega)] at hs
     clear r1
     by_cases hc0:0<cc
     ·have HV:=Lib.hid (show vl 65536 (L++[cc])=N*m*65536^k from by rw[iS,HLN.out];exact hs)
      clear hs
      have hokc:=gI hok (jM hcc)
      go_wp2_with (at_builtin;refine fB _ rfl _ _ 41 rfl .i64 3 i0 8 Tryz.underlying41 hi hz0 hz1 hz2 (by decide) w.heap.size _ L hacc' rfl _ cc rfl rfl hll hbe'.size ?_)
      intro v' w' hacc2 hbel2
      have hl4:(L++[cc]).length <=1099511627776:=by rw[List.length_append,HLN.out];simp;omega
      have hsq:=hacc2.sq hl4
      have hbb:=hbe'.trans hbel2
      clear hacc' hacc2
      go_wp2_with fail
      obtain⟨ad3,cap3,hv3,hrd,hc3,hm3,hl3,hn3⟩:=hsq
      rw[hv3]
      refine(hC 65536 (by omega) _ _ _ (L++[cc]) _ rfl hrd hokc (by omega) hc3 hn3).mono ?_
      rintro e w1 ⟨rfl,hw⟩
      have hw:=hw.symm;subst hw
      rw[HV.out]
      have hend:=kO hokc HV.out hrd hc3 hm3 hl4 hn3 hbb
      clear hv3
      go_wp2
      go_ret
      exact hend
     ·obtain rfl:cc=0:=by omega
      have HV:=Lib.hid (show vl 65536 L=N*m*65536^k from by omega)
      have hl4:L.length<=1099511627776:=by rw[HLN.out];omega
      have hsq:=hacc'.sq hl4
      clear hs hacc'
      go_wp2_with fail
      obtain⟨ad3,cap3,hv3,hrd,hc3,hm3,hl3,hn3⟩:=hsq
      rw[hv3]
      refine(hC 65536 (by omega) _ _ _ L _ rfl hrd hok (by omega) hc3 hn3).mono ?_
      rintro e w1 ⟨rfl,hw⟩
      have hw:=hw.symm;subst hw
      rw[HV.out]
      have hend:=kO hok HV.out hrd hc3 hm3 hl4 hn3 hbe'
      clear hv3
      go_wp2
      go_ret
      exact hend
end
end
def Hg (w:World) (d N M:Nat) (o i:Value) (wr:World):Prop:=
 ∃k:Nat,k<=d/\i= .int .i64 k/\Dg wr .i64 65536 o (N*vl 65536 ((dg 65536 M).take k))/\Below w.heap.size w wr
theorem s7 {N M a b:Nat} (h1:dl 65536 N<=a) (h2:dl 65536 M<=b):dl 65536 (N*M)<=a+b:=by
 by_cases h0:M=0
 ·subst h0;rw[Nat.mul_zero,eo];omega
 apply eL (by omega)
 rw[Nat.pow_add]
 have e1:N<65536^a:=Nat.lt_of_lt_of_le (iA (by omega) N) (Nat.pow_le_pow_right (by omega) h1)
 have e2:M<65536^b:=Nat.lt_of_lt_of_le (iA (by omega) M) (Nat.pow_le_pow_right (by omega) h2)
 exact Nat.lt_of_lt_of_le (Nat.mul_lt_mul_of_pos_right e1 (by omega)) (Nat.mul_le_mul_left _ (by omega))
theorem ue (v1 v2:Value) (N M:Nat) (w:World) (h1:Dg w .i64 65536 v1 N) (h2:Dg w .i64 65536 v2 M) (hb1:dl 65536 N<=100000) (hb2:dl 65536 M<=100000):
 CP 139 #[v1,v2] w (gT w (N*M)):=by
 obtain⟨ad2,cap2,rfl,r2,c2,m2,l2,n2⟩:=h2
 rw[aq]
 obtain⟨d,hd⟩:∃d:Nat,d=dl 65536 M:=⟨_,rfl⟩
 rw[<-hd] at hb2 ⊢
 have HD:=Lib.hid hd;clear hd
 go_enter Tryz.func139,Tryz.ntmps139
 go_wp2
 go_loopw [5,11] (fun o i wr=>Hg w d N M o i wr) (fun _ i _=>d-(intOf i).toNat)
 case atStart=>exact⟨0,Nat.zero_le _,rfl,Dg.zero _ _ _ _ (by unfold maxLen;omega) (fun h=>by cases h),(Below.refl _ _).alloc (Nat.le_refl _) _⟩
 case round=>
  obtain⟨k,hk,rfl,ho,hbe⟩:=hrel
  by_cases hlt:k<d
  ·obtain⟨b,off,ha,_,hc⟩:=(r2.below hbe).get (by rw[aq,<-HD.out];omega)
   have hc:=hc k (by rw[aq,<-HD.out];exact hlt)
   have lx:lg (dg 65536 M) k<65536:=cC (bM (b:=65536) (by omega) M) (by omega) k
   have HT:=Lib.hid (a5 65536 (dg 65536 M) k)
   have b1:dl 65536 (vl 65536 ((dg 65536 M).take k))<=100000:=Nat.le_trans (bT (by omega) (iT (bM (by omega) M) k)) (by simp;rw[aq,<-HD.out];omega)
   have b2:dl 65536 (lg (dg 65536 M) k*65536^k)<=100001:=by
    refine Nat.le_trans (eL (b:=65536) (by omega) (k:=k+1) ?_) (by omega)
    rw[Nat.pow_succ,Nat.mul_comm (65536^k)]
    exact Nat.mul_lt_mul_of_pos_right lx (Nat.pow_pos (by omega))
   have B1:=Lib.hid (s7 hb1 b1)
   have B2:=Lib.hid (s7 hb1 b2)
   have h1':=h1.below hbe
   subst ha
   clear b1 b2 r2
   go_wp2_with fail
   refine(mz v1 N (lg (dg 65536 M) k) k _ h1' lx (by omega) (by omega)).mono ?_
   rintro e w1 ⟨v3,rfl,d3,bb⟩
   have ho:=ho.below bb
   have hbe2:=aA hbe bb
   clear bb h1'
   go_wp2_with fail
   rw[Nat.mul_assoc] at d3
   refine(pN _ v3 _ _ _ ho d3 ⟨Nat.le_trans B1.out (by omega),Nat.le_trans B2.out (by omega)⟩).mono ?_
   rintro e w2 ⟨v4,rfl,d4,bb⟩
   have hbe3:=aA hbe2 bb
   rw[<-Nat.mul_add,<-HT.out] at d4
   clear bb ho d3 hbe2
   go_wp2
   go_roundw
   case rel=>exact⟨k+1,by omega,by go_num,d4,hbe3⟩
   case measure=>simp[intOf];omega
  ·obtain rfl:k=d:=by omega
   rw[bA (by rw[aq,<-HD.out];omega),bJ (by omega)] at ho
   have hV:=Lib.hid (bJ (b:=65536) (by omega) (N*M))
   clear r2
   go_wp2_with fail
   obtain⟨ad3,cap3,hv3,hrd,hc3,hm3,hl3,hn3⟩:=ho
   rw[hv3]
   refine(hC 65536 (by omega) _ _ _ (dg 65536 (N*M)) _ rfl hrd (bM (by omega) _) (by omega) hc3 hn3).mono ?_
   rintro e w1 ⟨rfl,hw⟩
   have hw:=hw.symm;subst hw
   rw[hV.out]
   clear hv3
   go_wp2
   go_ret
   exact⟨_,rfl,⟨_,_,rfl,hrd,hc3,hm3,hl3,hn3⟩,hbe⟩
def H7 (w:World) (d N M:Nat) (i:Value) (wr:World):Prop:=
 ∃(k n:Nat),k<=d/\i= .int .i64 ((k:Int)-1)/\(∀j,k<=j->lg (dg 65536 N) j=lg (dg 65536 M) j)/\wr=w.drewN n
theorem ug (v1 v2:Value) (N M:Nat) (w:World) (h1:Dg w .i64 65536 v1 N) (h2:Dg w .i64 65536 v2 M):
 CP 194 #[v1,v2] w (om w (.int .i64 (c3 N M))):=by
 obtain⟨ad1,cap1,rfl,r1,c1,m1,l1,n1⟩:=h1
 obtain⟨ad2,cap2,rfl,r2,c2,m2,l2,n2⟩:=h2
 rw[aq] at l1 l2 c1 c2 ⊢
 rw[aq]
 by_cases hlt:dl 65536 N<dl 65536 M
 ·have HC:=Lib.hid (jD (lZ (b:=65536) (by omega) hlt))
  clear r1 r2
  go_enter Tryz.func194,Tryz.ntmps194
  go_wp2
  go_ret
  exact⟨cP HC.out.symm,0,rfl⟩
 ·by_cases hgt:dl 65536 M<dl 65536 N
  ·have HC:=Lib.hid (kD (lZ (b:=65536) (by omega) hgt))
   clear r1 r2
   go_enter Tryz.func194,Tryz.ntmps194
   go_wp2
   go_ret
   exact⟨cP HC.out.symm,0,rfl⟩
  ·obtain⟨d,hd⟩:∃d:Nat,d=dl 65536 N:=⟨_,rfl⟩
   have hd2:d=dl 65536 M:=by omega
   rw[<-hd] at l1 c1 ⊢
   rw[<-hd2] at c2 ⊢
   have HD:=Lib.hid hd;have HD2:=Lib.hid hd2
   clear hd hd2 hlt hgt l2
   go_enter Tryz.func194,Tryz.ntmps194
   go_wp2
   go_loopw [5] (fun i wr=>H7 w d N M i wr) (fun i _=>(intOf i+1).toNat)
   case atStart=>exact⟨d,0,Nat.le_refl _,rfl,fun j hj=>by rw[dH (by rw[aq,<-HD.out];exact hj),dH (by rw[aq,<-HD2.out];exact hj)],rfl⟩
   case round=>
    obtain⟨k,n,hk,rfl,ha,hw⟩:=hrel
    by_cases hp:0<k
    ·obtain⟨j,rfl⟩:∃j,k=j+1:=⟨k-1,by omega⟩
     have HA:=Lib.hid ha
     rw[show((j+1:Nat):Int)-1=(j:Int) from by omega]
     obtain⟨b,off,hx,_,hc⟩:=r1.get (by rw[aq,<-HD.out];omega)
     obtain⟨b',off',hy,_,hc'⟩:=r2.get (by rw[aq,<-HD2.out];omega)
     have hcx:wr.cell? ⟨b,off+j,none⟩=some (.int .i64 (lg (dg 65536 N) j:Nat)):=by rw[hw];exact hc j (by rw[aq,<-HD.out];omega)
     have hcy:wr.cell? ⟨b',off'+j,none⟩=some (.int .i64 (lg (dg 65536 M) j:Nat)):=by rw[hw];exact hc' j (by rw[aq,<-HD2.out];omega)
     have hjd:(j:Int)<(d:Int):=by omega
     have HW:=Lib.hid hw
     subst hx;subst hy
     clear hc hc' r1 r2 hw ha
     by_cases q1:lg (dg 65536 N) j<lg (dg 65536 M) j
     ·have HC:=Lib.hid (jD (uV (b:=65536) (by omega) (fun i hi=>HA.out i (by omega)) q1))
      go_upto_region 8 with fail
      go_quiet (fail)
      go_wp2
      go_ret
      exact⟨cP HC.out.symm,n+nq,by rw[HW.out,World.drewN_drewN]⟩
     ·by_cases q2:lg (dg 65536 M) j<lg (dg 65536 N) j
      ·have HC:=Lib.hid (kD (uV (b:=65536) (by omega) (fun i hi=>(HA.out i (by omega)).symm) q2))
       go_upto_region 8 with fail
       go_quiet (fail)
       go_upto_region 10 with fail
       obtain⟨wq,hq⟩:∃wq,wq=wr.drewN nq:=⟨_,rfl⟩
       have hcx':wq.cell? ⟨b,off+j,none⟩=some (.int .i64 (lg (dg 65536 N) j:Nat)):=by rw[hq];exact hcx
       have hcy':wq.cell? ⟨b',off'+j,none⟩=some (.int .i64 (lg (dg 65536 M) j:Nat)):=by rw[hq];exact hcy
       rw[<-hq]
       have HQ:=Lib.hid (show ∃z,wq=w.drewN z from⟨n+nq,by rw[hq,HW.out,World.drewN_drewN]⟩)
       clear hq hcx hcy
       go_quiet (fail)
       go_wp2
       go_ret
       obtain⟨z,hz⟩:=HQ.out
       exact⟨cP HC.out.symm,z+nq,by rw[hz,World.drewN_drewN]⟩
      ·have he:lg (dg 65536 N) j=lg (dg 65536 M) j:=by omega
       have HE:=Lib.hid he
       clear he
       go_upto_region 8 with fail
       go_quiet (fail)
       go_upto_region 10 with fail
       obtain⟨wq,hq⟩:∃wq,wq=wr.drewN nq:=⟨_,rfl⟩
       have hcx':wq.cell? ⟨b,off+j,none⟩=some (.int .i64 (lg (dg 65536 N) j:Nat)):=by rw[hq];exact hcx
       have hcy':wq.cell? ⟨b',off'+j,none⟩=some (.int .i64 (lg (dg 65536 M) j:Nat)):=by rw[hq];exact hcy
       rw[<-hq]
       have HQ:=Lib.hid (show ∃z,wq=w.drewN z from⟨n+nq,by rw[hq,HW.out,World.drewN_drewN]⟩)
       clear hq hcx hcy
       go_quiet (fail)
       go_wp2
       go_roundw
       case rel=>
        obtain⟨z,hz⟩:=HQ.out
        exact⟨j,z+nq,by omega,by go_num,fun i hi=>by
         by_cases e:i=j
         ·subst e;exact HE.out
         ·exact HA.out i (by omega),by rw[hz,World.drewN_drewN]⟩
       case measure=>simp[intOf]
    ·obtain rfl:k=0:=by omega
     have HC:=Lib.hid (tt (A1 (b:=65536) (by omega) (fun j=>ha j (Nat.zero_le j))))
     have HW:=Lib.hid hw
     clear r1 r2 hw ha
     go_wp2
     go_ret
     exact⟨cP HC.out.symm,n,HW.out⟩
end Go.Proofs.YtgdpkknapcgcbaaGreatDoor
