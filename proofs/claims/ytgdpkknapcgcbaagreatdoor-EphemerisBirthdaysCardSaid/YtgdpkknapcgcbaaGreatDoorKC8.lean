import Derived.Test.YtgdpkknapcgcbaaGreatDoorKC6
import Derived.Deep.DeepCutAuto
namespace Go.Proofs.YtgdpkknapcgcbaaGreatDoor
open Go.RowKit
set_option maxRecDepth 100000
set_option linter.unusedVariables false
set_option maxHeartbeats 8000000
section
section
theorem jO (b:Nat) (hb2:2<=b) (ad:Option Addr) (n cap:Nat) (xs:List Nat) (w:World) (hn:n=xs.length) (hr:Rd w .i64 ad xs) (ho:okb b xs) (hl:xs.length<=2199023255553) (hcap:xs.length<=cap) (hnil:ad=none->cap=0):
 CP 135 #[.slice ad n cap] w (zZ b w ad cap xs):=by
 subst hn
 go_enter Tryz.func135,Tryz.ntmps135
 go_wp2
 go_loop [3] (fun n=>∃k:Nat,k<=xs.length/\n= .int .i64 k/\Hid (∀i,k<=i->lg xs i=0)) (fun n=>(intOf n).toNat)
 case atStart=>exact⟨_,Nat.le_refl _,rfl,Lib.hid (fun i hi=>eS (by omega))⟩
 case round=>
  obtain⟨k,hk,rfl,hz⟩:=hrel
  by_cases hp:0<k
  ·obtain⟨b',off,rfl,hb,hc⟩:=hr.get (by omega)
   have hc:=hc (k-1) (by omega)
   clear hr hnil
   go_wp2
   ·have ht:((lg xs (k-1):Nat) == (0:Int))=true:=by assumption
    go_round
    case rel=>exact⟨k-1,by omega,by go_num,fun i hi=>by
     by_cases e:i=k-1
     ·subst e;simpa using ht
     ·exact hz i (by omega)⟩
    case measure=>simp[intOf];omega
   ·have ht:((lg xs (k-1):Nat) == (0:Int))=false:=by assumption
    go_ret
    exact uc hb2 ho hk (fun _=>by simpa using ht) hz rfl
  ·obtain rfl:k=0:=by omega
   cases ad with
   |none=>
    have hc0:=hnil rfl
    subst hc0
    go_wp2
    go_ret
    exact uc hb2 ho hk (fun h=>by omega) hz rfl
   |some a=>
    go_wp2
    go_ret
    exact uc hb2 ho hk (fun h=>by omega) hz rfl
def kv (w:World) (N:Nat) (e:Ending) (w':World):Prop:=∃v,e= .returned v/\Dg w' .i64 65536 v N/\Below w.heap.size w w'
theorem mZ {w0 wr:World} {L:List Nat} {ad:Option Addr} {cap N:Nat} (hok:okb 65536 L) (hv:vl 65536 L=N) (hrd:Rd wr .i64 ad L) (hc2:L.length<=cap) (hm2:cap<=maxLen) (hl:L.length<=1099511627776) (hn2:ad=none->cap=0) (hb:Below w0.heap.size w0 wr):
 kv w0 N (.returned (.slice ad (dl 65536 N) cap)) wr:=by
 subst hv
 have hpre:=hrd.take (dl 65536 (vl 65536 L))
 have hd2:=cE (b:=65536) (by omega) hok
 rw[BE (by omega) hok] at hpre
 exact⟨_,rfl,⟨_,_,rfl,hpre,by rw[aB];omega,hm2,by rw[aB];omega,hn2⟩,hb⟩
theorem JY (j:Nat):(65536:Nat)^(2*j)=B32^j:=by rw[Nat.pow_mul];rfl
theorem GA {L:List Nat} {j x T:Nat} (hl:L.length=2*j) (hv:vl 65536 L=T):vl 65536 (L++[x%65536,x/65536])=T+x*B32^j:=by
 rw[qO,hv,hl,JY]
 simp only [vl,Nat.mul_zero,Nat.add_zero]
 rw[Nat.mod_add_div,Nat.mul_comm]
def Me (w:World) (xs:List Nat) (o i:Value) (wr:World):Prop:=
 ∃(j:Nat) (L:List Nat),j<=xs.length/\i= .int .i64 j/\Acc wr .i64 3 w.heap.size o L/\okb 65536 L/\L.length=2*j/\vl 65536 L=vl B32 (xs.take j)/\Below w.heap.size w wr
theorem LE (w:World) (x:Nat) (T:TypeId):Row (w.alloc (.cells #[.int .i64 ((x:Int)%65536),.int .i64 ((x:Int)/65536)] T)) .i64 T w.heap.size w.heap.size 2 [x%65536,x/65536]:=
 ⟨World.ownsRow_lit w #[.int .i64 ((x:Int)%65536),.int .i64 ((x:Int)/65536)] 2 (Nat.le_refl _) (by unfold maxLen;omega) (by simp)⟩
theorem Ez (v:Value) (xs:List Nat) (w:World) (h:Sq w .u32 v xs) (ho:okb B32 xs) (hl:xs.length<=1073741824):
 CP 68 #[v] w (kv w (vl B32 xs)):=by
 obtain⟨ad,cap,rfl,hr,_,_,_,_⟩:=h
 obtain⟨i0,hi,hz0,hz1,hz2⟩:=info_parts Tryz.info3
 go_enter Tryz.func68,Tryz.ntmps68
 go_wp2
 go_loopw [3,9] (fun o i wr=>Me w xs o i wr) (fun _ i _=>xs.length-(intOf i).toNat)
 case atStart=>exact⟨0,[],Nat.zero_le _,rfl,Acc.empty w .i64 3 w.heap.size (Nat.le_refl _),mn _,rfl,by simp[vl],(Below.refl _ _).alloc (Nat.le_refl _) _⟩
 case round=>
  obtain⟨j,L,hj,rfl,hacc,hok,hlen,hv,hbe⟩:=hrel
  have HV:=Lib.hid hv;have HLN:=Lib.hid hlen
  have hll:L.length<=1099511627778:=by omega
  clear hv hlen
  by_cases hlt:j<xs.length
  ·obtain⟨b,off,ha,hbs,hcx⟩:=(hr.below hbe).get (by omega)
   have hcx:=hcx j hlt
   have lx:lg xs j<4294967296:=di ho bi j
   have HT:=Lib.hid (bI B32 xs j)
   have HST:=Lib.hid (GA (x:=lg xs j) HLN.out HV.out)
   have hrow:=LE wr (lg xs j) 3
   have hac:=hacc.below ((Below.refl wr.heap.size wr).alloc (Nat.le_refl _) (.cells #[.int .i64 ((lg xs j:Int)%65536),.int .i64 ((lg xs j:Int)/65536)] 3))
   have hb2:=hbe.alloc hbe.size (.cells #[.int .i64 ((lg xs j:Int)%65536),.int .i64 ((lg xs j:Int)/65536)] 3)
   have HR:=Lib.hid hr
   subst ha
   clear hr
   go_wp2_with (at_builtin;refine sD _ rfl _ _ 41 rfl .i64 3 i0 8 Tryz.underlying41 hi hz0 hz1 hz2 (by decide) w.heap.size _ L hac rfl ⟨wr.heap.size,0,none⟩ 2 2 [lg xs j%65536,lg xs j/65536] rfl rfl hrow.rd hll (by simp) hb2.size ?_)
   intro v' w' hacc2 hbel2 _
   have hb3:=hb2.trans hbel2
   clear hacc hac hrow hb2 hbel2
   go_wp2
   go_roundw
   case rel=>exact⟨j+1,_,by omega,by go_num,hacc2,il hok (by intro x hx;simp at hx;omega),by simp;rw[HLN.out];omega,by rw[HST.out,HT.out],hb3⟩
   case measure=>simp[intOf];omega
  ·obtain rfl:j=xs.length:=by omega
   have hval:=HV.out
   rw[List.take_length] at hval
   have HVAL:=Lib.hid hval
   have hsq:=hacc.sq (by rw[HLN.out];omega)
   have hl4:L.length<=1099511627776:=by rw[HLN.out];omega
   clear hval hr hacc
   go_wp2_with fail
   obtain⟨ad3,cap3,hv3,hrd,hc3,hm3,hl3,hn3⟩:=hsq
   rw[hv3]
   refine(jO 65536 (by omega) _ _ _ L _ rfl hrd hok (by omega) hc3 hn3).mono ?_
   rintro e w1 ⟨rfl,hw⟩
   have hw:=hw.symm;subst hw
   rw[HVAL.out]
   have hend:=mZ hok HVAL.out hrd hc3 hm3 hl4 hn3 hbe
   clear hv3
   go_wp2
   go_ret
   exact hend
end
section
theorem QJ {b:Nat} (hb:2<=b) {L:List Nat} (ho:okb b L) (h:L.length<=dl b (vl b L)):L=dg b (vl b L):=by
 have:=BE hb ho
 rwa[List.take_of_length_le h] at this
def Be (w:World) (mx N M:Nat) (o c i:Value) (wr:World):Prop:=
 ∃(k cc:Nat) (L:List Nat),k<=mx/\i= .int .i64 k/\c= .int .i64 cc/\cc<=1/\L.length=k/\okb 65536 L/\Acc wr .i64 3 w.heap.size o L/\Below w.heap.size w wr/\
  vl 65536 L+cc*65536^k=vl 65536 ((dg 65536 N).take k)+vl 65536 ((dg 65536 M).take k)
theorem EA {N M mx:Nat} {L:List Nat} (hok:okb 65536 L) (hl:L.length=mx) (h1:mx=dl 65536 N\/mx=dl 65536 M) (hv:vl 65536 L=N+M):L=dg 65536 (N+M):=by
 have:=QJ (b:=65536) (by omega) hok (by
  rw[hv,hl]
  rcases h1 with h|h
  ·rw[h];exact jq (by omega) (by omega)
  ·rw[h];exact jq (by omega) (by omega))
 rwa[hv] at this
theorem EF {N M mx:Nat} {L:List Nat} (hok:okb 65536 L) (hl:L.length=mx) (hv:vl 65536 L+1*65536^mx=N+M):L++[1]=dg 65536 (N+M):=by
 have hv2:vl 65536 (L++[1])=N+M:=by rw[jN,hl];exact hv
 have hn:norm (L++[1]):=by
  intro _
  rw[List.length_append,List.length_singleton,Nat.add_sub_cancel,MI];omega
 have:=lH (b:=65536) (by omega) (il hok (kI (by omega))) hn
 rw[hv2] at this
 exact this.symm
set_option maxRecDepth 100000 in
theorem tL (v1 v2:Value) (N M:Nat) (w:World) (h1:Dg w .i64 65536 v1 N) (h2:Dg w .i64 65536 v2 M) (hb:dl 65536 N<=1000000/\dl 65536 M<=1000000):
 CP 193 #[v1,v2] w (kv w (N+M)):=by
 obtain⟨ad1,cap1,rfl,r1,c1,m1,l1,n1⟩:=h1
 obtain⟨ad2,cap2,rfl,r2,c2,m2,l2,n2⟩:=h2
 rw[aB] at l1 l2 c1 c2 ⊢
 rw[aB]
 obtain⟨i0,hi,hz0,hz1,hz2⟩:=info_parts Tryz.info3
 obtain⟨d1,hd1⟩:∃d1:Nat,d1=dl 65536 N:=⟨_,rfl⟩
 obtain⟨d2,hd2⟩:∃d2:Nat,d2=dl 65536 M:=⟨_,rfl⟩
 rw[<-hd1,<-hd2] at hb
 rw[<-hd1] at c1 l1 ⊢
 rw[<-hd2] at c2 l2 ⊢
 obtain⟨hb1,hb2⟩:=hb
 have HD1:=Lib.hid hd1;have HD2:=Lib.hid hd2
 clear hd1 hd2
 obtain⟨mx,hmx⟩:∃mx:Nat,mx=max d1 d2:=⟨_,rfl⟩
 have hm1:d1<=mx:=by omega
 have hm2:d2<=mx:=by omega
 have hml:mx<=1000000:=by omega
 have HMX:=Lib.hid (show mx=dl 65536 N\/mx=dl 65536 M from by rw[<-HD1.out,<-HD2.out];omega)
 have HMXX:=Lib.hid hmx
 clear hmx
 go_enter Tryz.func193,Tryz.ntmps193
 go_wp2
 go_loopw [5,6,7] (fun o c i wr=>Be w mx N M o c i wr) (fun _ _ i _=>mx-(intOf i).toNat)
 case atStart=>exact⟨0,0,[],by omega,rfl,rfl,by omega,rfl,mn _,Acc.empty w .i64 3 w.heap.size (Nat.le_refl _),(Below.refl _ _).alloc (Nat.le_refl _) _,by simp[vl]⟩
 case round=>
  obtain⟨k,cc,L,hk,rfl,rfl,hcc,hlen,hok,hacc,hbe,hmath⟩:=hrel
  have HM:=Lib.hid hmath;have HLN:=Lib.hid hlen
  have hll:L.length<=2199023255552:=by omega
  clear hmath hlen
  have x1:lg (dg 65536 N) k<65536:=di (cG (b:=65536) (by omega) N) (by omega) k
  have x2:lg (dg 65536 M) k<65536:=di (cG (b:=65536) (by omega) M) (by omega) k
  obtain⟨t,ht⟩:∃t:Nat,t=lg (dg 65536 N) k+lg (dg 65536 M) k+cc:=⟨_,rfl⟩
  have HT:=Lib.hid ht
  have htb:t<=131071:=by omega
  clear ht
  have hstep:=yW (x:=lg (dg 65536 N) k) (y:=lg (dg 65536 M) k) HM.out
  rw[<-HT.out] at hstep
  have HST:=Lib.hid hstep
  have hfin:k<mx->∀(o:Value) (w':World) (z zc:Int),Acc w' .i64 3 w.heap.size o (L++[t%65536])->Below w.heap.size wr w'->z=(k:Int)+1->zc=(t:Int)/65536->Be w mx N M o (.int .i64 zc) (.int .i64 z) w':=by
   intro hkm o w' z zc ha2 hb2 hz hzc
   refine⟨k+1,t/65536,L++[t%65536],by omega,by rw[hz];rfl,by rw[hzc];rfl,by omega,by simp;exact HLN.out,il hok (kI (Nat.mod_lt _ (by omega))),ha2,hbe.trans hb2,?_⟩
   rw[jN,HLN.out,bI,bI];exact HST.out
  have HF:=Lib.hid hfin
  clear hstep hfin
  by_cases hlt:k<mx
  ·have ways:(k<d1/\k<d2)\/(k<d1/\¬k<d2)\/(¬k<d1/\k<d2):=by have:=HMXX.out;omega
   rcases ways with⟨q1,q2⟩|⟨q1,q2⟩|⟨q1,q2⟩
   ·obtain⟨b,off,ha,_,hc⟩:=(r1.below hbe).get (by rw[aB,<-HD1.out];omega)
    have hc:=hc k (by rw[aB,<-HD1.out];exact q1)
    obtain⟨b',off',ha',_,hc'⟩:=(r2.below hbe).get (by rw[aB,<-HD2.out];omega)
    have hc':=hc' k (by rw[aB,<-HD2.out];exact q2)
    subst ha;subst ha'
    have et:(cc:Int)+(lg (dg 65536 N) k:Int)+(lg (dg 65536 M) k:Int)=(t:Int):=by have:=HT.out;omega
    clear r1 r2
    go_wp2_with (at_builtin;refine ir wr rfl _ _ 41 rfl .i64 3 i0 8 Tryz.underlying41 hi hz0 hz1 hz2 (by decide) w.heap.size _ L hacc rfl _ (t%65536) ?_ rfl hll hbe.size ?_)
    ·omega
    ·intro v' w' hacc2 hbel2
     clear hacc
     go_wp2
     go_roundw
     case rel=>exact HF.out hlt _ _ _ _ hacc2 hbel2 rfl (by omega)
     case measure=>simp[intOf];omega
   ·obtain⟨b,off,ha,_,hc⟩:=(r1.below hbe).get (by rw[aB,<-HD1.out];omega)
    have hc:=hc k (by rw[aB,<-HD1.out];exact q1)
    subst ha
    have z2:=eS (xs:=dg 65536 M) (i:=k) (by rw[aB,<-HD2.out];omega)
    have et:(cc:Int)+(lg (dg 65536 N) k:Int)=(t:Int):=by have:=HT.out;omega
    clear r1 r2 z2
    go_wp2_with (at_builtin;refine ir wr rfl _ _ 41 rfl .i64 3 i0 8 Tryz.underlying41 hi hz0 hz1 hz2 (by decide) w.heap.size _ L hacc rfl _ (t%65536) ?_ rfl hll hbe.size ?_)
    ·omega
    ·intro v' w' hacc2 hbel2
     clear hacc
     go_wp2
     go_roundw
     case rel=>exact HF.out hlt _ _ _ _ hacc2 hbel2 rfl (by omega)
     case measure=>simp[intOf];omega
   ·obtain⟨b,off,ha,_,hc⟩:=(r2.below hbe).get (by rw[aB,<-HD2.out];omega)
    have hc:=hc k (by rw[aB,<-HD2.out];exact q2)
    subst ha
    have z2:=eS (xs:=dg 65536 N) (i:=k) (by rw[aB,<-HD1.out];omega)
    have et:(cc:Int)+(lg (dg 65536 M) k:Int)=(t:Int):=by have:=HT.out;omega
    clear r1 r2 z2
    go_wp2_with (at_builtin;refine ir wr rfl _ _ 41 rfl .i64 3 i0 8 Tryz.underlying41 hi hz0 hz1 hz2 (by decide) w.heap.size _ L hacc rfl _ (t%65536) ?_ rfl hll hbe.size ?_)
    ·omega
    ·intro v' w' hacc2 hbel2
     clear hacc
     go_wp2
     go_roundw
     case rel=>exact HF.out hlt _ _ _ _ hacc2 hbel2 rfl (by omega)
     case measure=>simp[intOf];omega
  ·obtain rfl:k=mx:=by omega
   have hs:=HM.out
   rw[cd (by rw[aB,<-HD1.out];omega),cd (by rw[aB,<-HD2.out];omega),cF (by omega),cF (by omega)] at hs
   clear r1 r2
   by_cases hc0:cc=0
   ·have HE:=Lib.hid (EA hok HLN.out HMX.out (by rw[hc0] at hs;omega))
    clear hs
    subst hc0
    go_wp2
    go_ret
    exact⟨_,rfl,by rw[HE.out] at hacc;exact hacc.sq (by rw[<-HE.out,HLN.out];omega),hbe⟩
   ·obtain rfl:cc=1:=by omega
    have HE:=Lib.hid (EF hok HLN.out hs)
    clear hs hc0
    go_wp2_with (at_builtin;refine ir wr rfl _ _ 41 rfl .i64 3 i0 8 Tryz.underlying41 hi hz0 hz1 hz2 (by decide) w.heap.size _ L hacc rfl _ 1 rfl rfl hll hbe.size ?_)
    intro v' w' hacc2 hbel2
    clear hacc
    go_wp2
    go_ret
    rw[HE.out] at hacc2
    exact⟨_,rfl,hacc2.sq (by rw[<-HE.out];simp;rw[HLN.out];omega),hbe.trans hbel2⟩
def HH (w:World) (d up m N:Nat) (o c i:Value) (wr:World):Prop:=
 ∃(k cc:Nat) (L:List Nat),k<=d/\i= .int .i64 k/\c= .int .i64 cc/\cc<65536/\L.length=up+k/\okb 65536 L/\Acc wr .i64 3 w.heap.size o L/\Below w.heap.size w wr/\
  vl 65536 L+cc*65536^(up+k)=vl 65536 ((dg 65536 N).take k)*m*65536^up
def Ik (w:World) (up:Nat) (o i:Value) (wr:World):Prop:=
 ∃k:Nat,k<=up/\i= .int .i64 k/\Acc wr .i64 3 w.heap.size o (List.replicate k 0)/\Below w.heap.size w wr
theorem Hk (b k:Nat):vl b (List.replicate k 0)=0:=by
 induction k with
 |zero=>rfl
 |succ k ih=>rw[List.replicate_succ];simp only [vl];rw[ih];simp
theorem Dp {L V x m c e up:Nat} (h:L+c*65536^(up+e)=V*m*65536^up):
 L+(c+x*m)%65536*65536^(up+e)+(c+x*m)/65536*65536^(up+(e+1))=(V+x*65536^e)*m*65536^up:=by
 have h2:=jt 65536 (65536^(up+e)) (c+x*m)
 rw[<-Nat.pow_succ,Nat.add_mul] at h2
 have h3:x*m*65536^(up+e)=x*65536^e*m*65536^up:=by
  rw[Nat.pow_add,Nat.mul_comm (65536^up),<-Nat.mul_assoc,Nat.mul_assoc x,Nat.mul_comm m,<-Nat.mul_assoc]
 rw[Nat.add_mul,Nat.add_mul,<-h3,show up+(e+1)=up+e+1 from by omega]
 simp only [Nat.succ_eq_add_one] at h2
 omega
set_option maxRecDepth 100000 in
theorem pu (v1:Value) (N m up:Nat) (w:World) (h1:Dg w .i64 65536 v1 N) (hm:m<65536) (hup:up<=1000000) (hd:dl 65536 N<=1000000):
 CP 196 #[v1,.int .i64 m,.int .i64 up] w (kv w (N*m*65536^up)):=by
 obtain⟨ad1,cap1,rfl,r1,c1,m1,l1,n1⟩:=h1
 rw[aB] at l1 c1 ⊢
 obtain⟨i0,hi,hz0,hz1,hz2⟩:=info_parts Tryz.info3
 obtain⟨d,hdd⟩:∃d:Nat,d=dl 65536 N:=⟨_,rfl⟩
 rw[<-hdd] at c1 l1 hd ⊢
 have HD:=Lib.hid hdd;clear hdd
 go_enter Tryz.func196,Tryz.ntmps196
 go_wp2
 go_loopw [7,8] (fun o i wr=>Ik w up o i wr) (fun _ i _=>up-(intOf i).toNat)
 case atStart=>exact⟨0,Nat.zero_le _,rfl,Acc.empty w .i64 3 w.heap.size (Nat.le_refl _),(Below.refl _ _).alloc (Nat.le_refl _) _⟩
 case round=>
  obtain⟨k,hk,rfl,hacc,hbe⟩:=hrel
  by_cases hlt:k<up
  ·go_wp2_with (at_builtin;refine ir wr rfl _ _ 41 rfl .i64 3 i0 8 Tryz.underlying41 hi hz0 hz1 hz2 (by decide) w.heap.size _ (List.replicate k 0) hacc rfl _ 0 rfl rfl ?_ hbe.size ?_)
   ·simp;omega
   ·intro v' w' hacc2 hbel2
    clear hacc
    go_wp2
    go_roundw
    case rel=>exact⟨k+1,by omega,by go_num,by rw[show List.replicate (k+1) 0=List.replicate k 0++[0] from List.replicate_succ'];exact hacc2,hbe.trans hbel2⟩
    case measure=>simp[intOf];omega
  ·obtain rfl:k=up:=by omega
   go_wp2
   go_loopw [7,9,23] (fun o c i wr=>HH w d k m N o c i wr) (fun _ _ i _=>d-(intOf i).toNat)
   case atStart=>exact⟨0,0,_,Nat.zero_le _,rfl,rfl,by omega,by simp,fX (by omega) _,hacc,hbe,by rw[Hk];simp[vl]⟩
   case round=>
    obtain⟨u,cc,L,hu,rfl,rfl,hcc,hlen,hok,hacc',hbe',hmath⟩:=hrel
    have HM:=Lib.hid hmath;have HLN:=Lib.hid hlen
    have hll:L.length<=2199023255552:=by omega
    clear hmath hlen hacc
    by_cases hlu:u<d
    ·obtain⟨b,off,ha,_,hc⟩:=(r1.below hbe').get (by rw[aB,<-HD.out];omega)
     have hc:=hc u (by rw[aB,<-HD.out];exact hlu)
     have lx:lg (dg 65536 N) u<65536:=di (cG (b:=65536) (by omega) N) (by omega) u
     subst ha
     obtain⟨p,hp⟩:∃p,p=lg (dg 65536 N) u*m:=⟨_,rfl⟩
     have hpb:p<=4294836225:=by rw[hp];exact Nat.mul_le_mul (show _<=65535 by omega) (show m<=65535 by omega)
     have ep:(lg (dg 65536 N) u:Int)*(m:Int)=(p:Int):=by rw[hp];push_cast;rfl
     have hst:=Dp (x:=lg (dg 65536 N) u) HM.out
     rw[<-hp] at hst
     have HST:=Lib.hid hst
     clear hst hp r1
     go_wp2_with (at_builtin;refine ir _ rfl _ _ 41 rfl .i64 3 i0 8 Tryz.underlying41 hi hz0 hz1 hz2 (by decide) w.heap.size _ L hacc' rfl _ ((cc+p)%65536) ?_ rfl hll hbe'.size ?_)
     ·omega
     ·intro v' w' hacc2 hbel2
      clear hacc'
      go_wp2
      go_roundw
      case rel=>
       refine⟨u+1,(cc+p)/65536,L++[(cc+p)%65536],by omega,by go_num,by go_num,by omega,by simp;rw[HLN.out];omega,il hok (kI (Nat.mod_lt _ (by omega))),hacc2,hbe'.trans hbel2,?_⟩
       rw[jN,HLN.out,bI];exact HST.out
      case measure=>simp[intOf];omega
    ·obtain rfl:u=d:=by omega
     have hs:=HM.out
     rw[cd (by rw[aB,<-HD.out];omega),cF (by omega)] at hs
     clear r1
     by_cases hc0:0<cc
     ·have HV:=Lib.hid (show vl 65536 (L++[cc])=N*m*65536^k from by rw[jN,HLN.out];exact hs)
      clear hs
      have hokc:=il hok (kI hcc)
      go_wp2_with (at_builtin;refine ir _ rfl _ _ 41 rfl .i64 3 i0 8 Tryz.underlying41 hi hz0 hz1 hz2 (by decide) w.heap.size _ L hacc' rfl _ cc rfl rfl hll hbe'.size ?_)
      intro v' w' hacc2 hbel2
      have hl4:(L++[cc]).length <=1099511627776:=by rw[List.length_append,HLN.out];simp;omega
      have hsq:=hacc2.sq hl4
      have hbb:=hbe'.trans hbel2
      clear hacc' hacc2
      go_wp2_with fail
      obtain⟨ad3,cap3,hv3,hrd,hc3,hm3,hl3,hn3⟩:=hsq
      rw[hv3]
      refine(jO 65536 (by omega) _ _ _ (L++[cc]) _ rfl hrd hokc (by omega) hc3 hn3).mono ?_
      rintro e w1 ⟨rfl,hw⟩
      have hw:=hw.symm;subst hw
      rw[HV.out]
      have hend:=mZ hokc HV.out hrd hc3 hm3 hl4 hn3 hbb
      clear hv3
      go_wp2
      go_ret
      exact hend
     ·obtain rfl:cc=0:=by omega
      have HV:=Lib.hid (show vl 65536 L=N*m*65536^k from by omega)
      have hl4:L.length<=1099511627776:=by rw[HLN.out];omega
      have hsq:=hacc'.sq hl4
      clear hs hacc'
      go_wp2_with fail
      obtain⟨ad3,cap3,hv3,hrd,hc3,hm3,hl3,hn3⟩:=hsq
      rw[hv3]
      refine(jO 65536 (by omega) _ _ _ L _ rfl hrd hok (by omega) hc3 hn3).mono ?_
      rintro e w1 ⟨rfl,hw⟩
      have hw:=hw.symm;subst hw
      rw[HV.out]
      have hend:=mZ hok HV.out hrd hc3 hm3 hl4 hn3 hbe'
      clear hv3
      go_wp2
      go_ret
      exact hend
end
end
def M4 (w:World) (d N M:Nat) (o i:Value) (wr:World):Prop:=
 ∃k:Nat,k<=d/\i= .int .i64 k/\Dg wr .i64 65536 o (N*vl 65536 ((dg 65536 M).take k))/\Below w.heap.size w wr
theorem wP {N M a b:Nat} (h1:dl 65536 N<=a) (h2:dl 65536 M<=b):dl 65536 (N*M)<=a+b:=by
 by_cases h0:M=0
 ·subst h0;rw[Nat.mul_zero,gb];omega
 apply fT (by omega)
 rw[Nat.pow_add]
 have e1:N<65536^a:=Nat.lt_of_lt_of_le (jx (by omega) N) (Nat.pow_le_pow_right (by omega) h1)
 have e2:M<65536^b:=Nat.lt_of_lt_of_le (jx (by omega) M) (Nat.pow_le_pow_right (by omega) h2)
 exact Nat.lt_of_lt_of_le (Nat.mul_lt_mul_of_pos_right e1 (by omega)) (Nat.mul_le_mul_left _ (by omega))
theorem yt (v1 v2:Value) (N M:Nat) (w:World) (h1:Dg w .i64 65536 v1 N) (h2:Dg w .i64 65536 v2 M) (hb1:dl 65536 N<=100000) (hb2:dl 65536 M<=100000):
 CP 139 #[v1,v2] w (kv w (N*M)):=by
 obtain⟨ad2,cap2,rfl,r2,c2,m2,l2,n2⟩:=h2
 rw[aB]
 obtain⟨d,hd⟩:∃d:Nat,d=dl 65536 M:=⟨_,rfl⟩
 rw[<-hd] at hb2 ⊢
 have HD:=Lib.hid hd;clear hd
 go_enter Tryz.func139,Tryz.ntmps139
 go_wp2
 go_loopw [5,11] (fun o i wr=>M4 w d N M o i wr) (fun _ i _=>d-(intOf i).toNat)
 case atStart=>exact⟨0,Nat.zero_le _,rfl,Dg.zero _ _ _ _ (by unfold maxLen;omega) (fun h=>by cases h),(Below.refl _ _).alloc (Nat.le_refl _) _⟩
 case round=>
  obtain⟨k,hk,rfl,ho,hbe⟩:=hrel
  by_cases hlt:k<d
  ·obtain⟨b,off,ha,_,hc⟩:=(r2.below hbe).get (by rw[aB,<-HD.out];omega)
   have hc:=hc k (by rw[aB,<-HD.out];exact hlt)
   have lx:lg (dg 65536 M) k<65536:=di (cG (b:=65536) (by omega) M) (by omega) k
   have HT:=Lib.hid (bI 65536 (dg 65536 M) k)
   have b1:dl 65536 (vl 65536 ((dg 65536 M).take k))<=100000:=Nat.le_trans (cE (by omega) (jG (cG (by omega) M) k)) (by simp;rw[aB,<-HD.out];omega)
   have b2:dl 65536 (lg (dg 65536 M) k*65536^k)<=100001:=by
    refine Nat.le_trans (fT (b:=65536) (by omega) (k:=k+1) ?_) (by omega)
    rw[Nat.pow_succ,Nat.mul_comm (65536^k)]
    exact Nat.mul_lt_mul_of_pos_right lx (Nat.pow_pos (by omega))
   have B1:=Lib.hid (wP hb1 b1)
   have B2:=Lib.hid (wP hb1 b2)
   have h1':=h1.below hbe
   subst ha
   clear b1 b2 r2
   go_wp2_with fail
   refine(pu v1 N (lg (dg 65536 M) k) k _ h1' lx (by omega) (by omega)).mono ?_
   rintro e w1 ⟨v3,rfl,d3,bb⟩
   have ho:=ho.below bb
   have hbe2:=aF hbe bb
   clear bb h1'
   go_wp2_with fail
   rw[Nat.mul_assoc] at d3
   refine(tL _ v3 _ _ _ ho d3 ⟨Nat.le_trans B1.out (by omega),Nat.le_trans B2.out (by omega)⟩).mono ?_
   rintro e w2 ⟨v4,rfl,d4,bb⟩
   have hbe3:=aF hbe2 bb
   rw[<-Nat.mul_add,<-HT.out] at d4
   clear bb ho d3 hbe2
   go_wp2
   go_roundw
   case rel=>exact⟨k+1,by omega,by go_num,d4,hbe3⟩
   case measure=>simp[intOf];omega
  ·obtain rfl:k=d:=by omega
   rw[cd (by rw[aB,<-HD.out];omega),cF (by omega)] at ho
   have hV:=Lib.hid (cF (b:=65536) (by omega) (N*M))
   clear r2
   go_wp2_with fail
   obtain⟨ad3,cap3,hv3,hrd,hc3,hm3,hl3,hn3⟩:=ho
   rw[hv3]
   refine(jO 65536 (by omega) _ _ _ (dg 65536 (N*M)) _ rfl hrd (cG (by omega) _) (by omega) hc3 hn3).mono ?_
   rintro e w1 ⟨rfl,hw⟩
   have hw:=hw.symm;subst hw
   rw[hV.out]
   clear hv3
   go_wp2
   go_ret
   exact⟨_,rfl,⟨_,_,rfl,hrd,hc3,hm3,hl3,hn3⟩,hbe⟩
def L3 (w:World) (d N M:Nat) (i:Value) (wr:World):Prop:=
 ∃(k n:Nat),k<=d/\i= .int .i64 ((k:Int)-1)/\(∀j,k<=j->lg (dg 65536 N) j=lg (dg 65536 M) j)/\wr=w.drewN n
theorem yB (v1 v2:Value) (N M:Nat) (w:World) (h1:Dg w .i64 65536 v1 N) (h2:Dg w .i64 65536 v2 M):
 CP 194 #[v1,v2] w (sx w (.int .i64 (c3 N M))):=by
 obtain⟨ad1,cap1,rfl,r1,c1,m1,l1,n1⟩:=h1
 obtain⟨ad2,cap2,rfl,r2,c2,m2,l2,n2⟩:=h2
 rw[aB] at l1 l2 c1 c2 ⊢
 rw[aB]
 by_cases hlt:dl 65536 N<dl 65536 M
 ·have HC:=Lib.hid (lU (pD (b:=65536) (by omega) hlt))
  clear r1 r2
  go_enter Tryz.func194,Tryz.ntmps194
  go_wp2
  go_ret
  exact⟨dQ HC.out.symm,0,rfl⟩
 ·by_cases hgt:dl 65536 M<dl 65536 N
  ·have HC:=Lib.hid (nc (pD (b:=65536) (by omega) hgt))
   clear r1 r2
   go_enter Tryz.func194,Tryz.ntmps194
   go_wp2
   go_ret
   exact⟨dQ HC.out.symm,0,rfl⟩
  ·obtain⟨d,hd⟩:∃d:Nat,d=dl 65536 N:=⟨_,rfl⟩
   have hd2:d=dl 65536 M:=by omega
   rw[<-hd] at l1 c1 ⊢
   rw[<-hd2] at c2 ⊢
   have HD:=Lib.hid hd;have HD2:=Lib.hid hd2
   clear hd hd2 hlt hgt l2
   go_enter Tryz.func194,Tryz.ntmps194
   go_wp2
   go_loopw [5] (fun i wr=>L3 w d N M i wr) (fun i _=>(intOf i+1).toNat)
   case atStart=>exact⟨d,0,Nat.le_refl _,rfl,fun j hj=>by rw[eS (by rw[aB,<-HD.out];exact hj),eS (by rw[aB,<-HD2.out];exact hj)],rfl⟩
   case round=>
    obtain⟨k,n,hk,rfl,ha,hw⟩:=hrel
    by_cases hp:0<k
    ·obtain⟨j,rfl⟩:∃j,k=j+1:=⟨k-1,by omega⟩
     have HA:=Lib.hid ha
     rw[show((j+1:Nat):Int)-1=(j:Int) from by omega]
     obtain⟨b,off,hx,_,hc⟩:=r1.get (by rw[aB,<-HD.out];omega)
     obtain⟨b',off',hy,_,hc'⟩:=r2.get (by rw[aB,<-HD2.out];omega)
     have hcx:wr.cell? ⟨b,off+j,none⟩=some (.int .i64 (lg (dg 65536 N) j:Nat)):=by rw[hw];exact hc j (by rw[aB,<-HD.out];omega)
     have hcy:wr.cell? ⟨b',off'+j,none⟩=some (.int .i64 (lg (dg 65536 M) j:Nat)):=by rw[hw];exact hc' j (by rw[aB,<-HD2.out];omega)
     have hjd:(j:Int)<(d:Int):=by omega
     have HW:=Lib.hid hw
     subst hx;subst hy
     clear hc hc' r1 r2 hw ha
     by_cases q1:lg (dg 65536 N) j<lg (dg 65536 M) j
     ·have HC:=Lib.hid (lU (zg (b:=65536) (by omega) (fun i hi=>HA.out i (by omega)) q1))
      go_upto_region 8 with fail
      go_quiet (fail)
      go_wp2
      go_ret
      exact⟨dQ HC.out.symm,n+nq,by rw[HW.out,World.drewN_drewN]⟩
     ·by_cases q2:lg (dg 65536 M) j<lg (dg 65536 N) j
      ·have HC:=Lib.hid (nc (zg (b:=65536) (by omega) (fun i hi=>(HA.out i (by omega)).symm) q2))
       go_upto_region 8 with fail
       go_quiet (fail)
       go_upto_region 10 with fail
       obtain⟨wq,hq⟩:∃wq,wq=wr.drewN nq:=⟨_,rfl⟩
       have hcx':wq.cell? ⟨b,off+j,none⟩=some (.int .i64 (lg (dg 65536 N) j:Nat)):=by rw[hq];exact hcx
       have hcy':wq.cell? ⟨b',off'+j,none⟩=some (.int .i64 (lg (dg 65536 M) j:Nat)):=by rw[hq];exact hcy
       rw[<-hq]
       have HQ:=Lib.hid (show ∃z,wq=w.drewN z from⟨n+nq,by rw[hq,HW.out,World.drewN_drewN]⟩)
       clear hq hcx hcy
       go_quiet (fail)
       go_wp2
       go_ret
       obtain⟨z,hz⟩:=HQ.out
       exact⟨dQ HC.out.symm,z+nq,by rw[hz,World.drewN_drewN]⟩
      ·have he:lg (dg 65536 N) j=lg (dg 65536 M) j:=by omega
       have HE:=Lib.hid he
       clear he
       go_upto_region 8 with fail
       go_quiet (fail)
       go_upto_region 10 with fail
       obtain⟨wq,hq⟩:∃wq,wq=wr.drewN nq:=⟨_,rfl⟩
       have hcx':wq.cell? ⟨b,off+j,none⟩=some (.int .i64 (lg (dg 65536 N) j:Nat)):=by rw[hq];exact hcx
       have hcy':wq.cell? ⟨b',off'+j,none⟩=some (.int .i64 (lg (dg 65536 M) j:Nat)):=by rw[hq];exact hcy
       rw[<-hq]
       have HQ:=Lib.hid (show ∃z,wq=w.drewN z from⟨n+nq,by rw[hq,HW.out,World.drewN_drewN]⟩)
       clear hq hcx hcy
       go_quiet (fail)
       go_wp2
       go_roundw
       case rel=>
        obtain⟨z,hz⟩:=HQ.out
        exact⟨j,z+nq,by omega,by go_num,fun i hi=>by
         by_cases e:i=j
         ·subst e;exact HE.out
         ·exact HA.out i (by omega),by rw[hz,World.drewN_drewN]⟩
       case measure=>simp[intOf]
    ·obtain rfl:k=0:=by omega
     have HC:=Lib.hid (xJ (Fq (b:=65536) (by omega) (fun j=>ha j (Nat.zero_le j))))
     have HW:=Lib.hid hw
     clear r1 r2 hw ha
     go_wp2
     go_ret
     exact⟨dQ HC.out.symm,n,HW.out⟩
section
section
def Ct (w:World) (d N M:Nat) (o c i:Value) (wr:World):Prop:=
 ∃(k cc:Nat) (L:List Nat),k<=d/\i= .int .i64 k/\c= .int .i64 cc/\cc<=1/\L.length=k/\okb 65536 L/\Acc wr .i64 3 w.heap.size o L/\Below w.heap.size w wr/\
  vl 65536 L+vl 65536 ((dg 65536 M).take k)=vl 65536 ((dg 65536 N).take k)+cc*65536^k
theorem E8 {d cc Z X Y:Nat} (h:Z+Y=X+cc*65536^d) (hz:Z<65536^d) (hcc:cc<=1) (hle:Y<=X):Z=X-Y:=by
 by_cases hc:cc=0
 ·subst hc;omega
 ·obtain rfl:cc=1:=by omega
  omega
set_option maxRecDepth 100000 in
theorem tA (v1 v2:Value) (N M:Nat) (w:World) (h1:Dg w .i64 65536 v1 N) (h2:Dg w .i64 65536 v2 M) (hle:M<=N) (hb:dl 65536 N<=1000000):
 CP 195 #[v1,v2] w (kv w (N-M)):=by
 obtain⟨ad1,cap1,rfl,r1,c1,m1,l1,n1⟩:=h1
 obtain⟨ad2,cap2,rfl,r2,c2,m2,l2,n2⟩:=h2
 rw[aB] at l1 l2 c1 c2 ⊢
 rw[aB]
 obtain⟨i0,hi,hz0,hz1,hz2⟩:=info_parts Tryz.info3
 have hdd:=jq (b:=65536) (by omega) hle
 have HLE:=Lib.hid hle;clear hle
 obtain⟨d1,hd1⟩:∃d1:Nat,d1=dl 65536 N:=⟨_,rfl⟩
 obtain⟨d2,hd2⟩:∃d2:Nat,d2=dl 65536 M:=⟨_,rfl⟩
 rw[<-hd1] at c1 l1 hdd hb ⊢
 rw[<-hd2] at c2 l2 hdd ⊢
 have HD1:=Lib.hid hd1;have HD2:=Lib.hid hd2
 clear hd1 hd2
 go_enter Tryz.func195,Tryz.ntmps195
 go_wp2
 go_loopw [5,6,12] (fun o c i wr=>Ct w d1 N M o c i wr) (fun _ _ i _=>d1-(intOf i).toNat)
 case atStart=>exact⟨0,0,[],by omega,rfl,rfl,by omega,rfl,mn _,Acc.empty w .i64 3 w.heap.size (Nat.le_refl _),(Below.refl _ _).alloc (Nat.le_refl _) _,by simp[vl]⟩
 case round=>
  obtain⟨k,cc,L,hk,rfl,rfl,hcc,hlen,hok,hacc,hbe,hmath⟩:=hrel
  have HM:=Lib.hid hmath;have HLN:=Lib.hid hlen
  have hll:L.length<=2199023255552:=by omega
  clear hmath hlen
  by_cases hlt:k<d1
  ·have x1:lg (dg 65536 N) k<65536:=di (cG (b:=65536) (by omega) N) (by omega) k
   have x2:lg (dg 65536 M) k<65536:=di (cG (b:=65536) (by omega) M) (by omega) k
   obtain⟨b,off,ha,_,hc⟩:=(r1.below hbe).get (by rw[aB,<-HD1.out];omega)
   have hc:=hc k (by rw[aB,<-HD1.out];exact hlt)
   have r2':=r2.below hbe
   have HR1:=Lib.hid r1;have HR2:=Lib.hid r2
   obtain⟨y,hy⟩:∃y,y=lg (dg 65536 M) k:=⟨_,rfl⟩
   have HY:=Lib.hid hy
   obtain⟨r,c',hcr⟩:∃r c':Nat,r<65536/\c'<=1/\r+y+cc=lg (dg 65536 N) k+c'*65536/\(c'=1↔lg (dg 65536 N) k<y+cc):=by
    by_cases q:lg (dg 65536 N) k<y+cc
    ·exact⟨lg (dg 65536 N) k+65536-y-cc,1,by omega,by omega,by omega,by simp[q]⟩
    ·exact⟨lg (dg 65536 N) k-y-cc,0,by omega,by omega,by omega,by simp;omega⟩
   obtain⟨hr,hc1,hsum,hiff⟩:=hcr
   have hstep:=zX (y:=y) HM.out hsum
   have hfin:∀(o:Value) (w':World) (z zc:Int),Acc w' .i64 3 w.heap.size o (L++[r])->Below w.heap.size wr w'->z=(k:Int)+1->zc=(c':Int)->Ct w d1 N M o (.int .i64 zc) (.int .i64 z) w':=by
    intro o w' z zc ha2 hb2 hz hzc
    exact⟨k+1,c',L++[r],by omega,by rw[hz];rfl,by rw[hzc],hc1,by simp;exact HLN.out,il hok (kI hr),ha2,hbe.trans hb2,by rw[jN,HLN.out,bI,bI,<-HY.out];exact hstep⟩
   have HF:=Lib.hid hfin
   subst ha
   clear hstep hfin r1 r2
   rw[<-hy] at x2
   by_cases q2:k<d2
   ·obtain⟨b',off',ha',_,hc'⟩:=r2'.get (by rw[aB,<-HD2.out];omega)
    have hc':=hc' k (by rw[aB,<-HD2.out];exact q2)
    rw[<-hy] at hc'
    subst ha'
    clear hy r2'
    by_cases hneg:lg (dg 65536 N) k<y+cc
    ·have e1:c'=1:=hiff.2 hneg
     clear hiff
     subst e1
     go_wp2_with (at_builtin;refine ir wr rfl _ _ 41 rfl .i64 3 i0 8 Tryz.underlying41 hi hz0 hz1 hz2 (by decide) w.heap.size _ L hacc rfl _ r ?_ rfl hll hbe.size ?_)
     ·omega
     ·intro v' w' hacc2 hbel2
      clear hacc
      go_wp2
      go_roundw
      case rel=>exact HF.out _ _ _ _ hacc2 hbel2 rfl rfl
      case measure=>simp[intOf];omega
    ·have e1:c'=0:=by
      by_cases q:c'=1
      ·exact absurd (hiff.1 q) hneg
      ·omega
     clear hiff
     subst e1
     go_wp2_with (at_builtin;refine ir wr rfl _ _ 41 rfl .i64 3 i0 8 Tryz.underlying41 hi hz0 hz1 hz2 (by decide) w.heap.size _ L hacc rfl _ r ?_ rfl hll hbe.size ?_)
     ·omega
     ·intro v' w' hacc2 hbel2
      clear hacc
      go_wp2
      go_roundw
      case rel=>exact HF.out _ _ _ _ hacc2 hbel2 rfl rfl
      case measure=>simp[intOf];omega
   ·have hy0:y=0:=by rw[hy];exact eS (by rw[aB,<-HD2.out];omega)
    clear hy r2'
    by_cases hneg:lg (dg 65536 N) k<y+cc
    ·have e1:c'=1:=hiff.2 hneg
     clear hiff
     subst e1
     subst hy0
     go_wp2_with (at_builtin;refine ir wr rfl _ _ 41 rfl .i64 3 i0 8 Tryz.underlying41 hi hz0 hz1 hz2 (by decide) w.heap.size _ L hacc rfl _ r ?_ rfl hll hbe.size ?_)
     ·omega
     ·intro v' w' hacc2 hbel2
      clear hacc
      go_wp2
      go_roundw
      case rel=>exact HF.out _ _ _ _ hacc2 hbel2 rfl rfl
      case measure=>simp[intOf];omega
    ·have e1:c'=0:=by
      by_cases q:c'=1
      ·exact absurd (hiff.1 q) hneg
      ·omega
     clear hiff
     subst e1
     subst hy0
     go_wp2_with (at_builtin;refine ir wr rfl _ _ 41 rfl .i64 3 i0 8 Tryz.underlying41 hi hz0 hz1 hz2 (by decide) w.heap.size _ L hacc rfl _ r ?_ rfl hll hbe.size ?_)
     ·omega
     ·intro v' w' hacc2 hbel2
      clear hacc
      go_wp2
      go_roundw
      case rel=>exact HF.out _ _ _ _ hacc2 hbel2 rfl rfl
      case measure=>simp[intOf];omega
  ·have hkd:k=d1:=by omega
   have hsub:vl 65536 L=N-M:=by
    have hm:=HM.out
    rw[cd (by rw[aB,<-HD2.out];omega),cd (by rw[aB,<-HD1.out];omega),cF (by omega),cF (by omega)] at hm
    have hz:=ie hok
    rw[HLN.out] at hz
    exact E8 hm hz hcc HLE.out
   have HS:=Lib.hid hsub
   have hsq:=hacc.sq (by rw[HLN.out];omega)
   have hl4:L.length<=1099511627776:=by rw[HLN.out];omega
   clear hacc hsub r1 r2 hkd
   go_wp2_with fail
   obtain⟨ad3,cap3,hv3,hrd,hc3,hm3,hl3,hn3⟩:=hsq
   rw[hv3]
   refine(jO 65536 (by omega) _ _ _ L _ rfl hrd hok (by omega) hc3 hn3).mono ?_
   rintro e w1 ⟨rfl,hw⟩
   have hw:=hw.symm;subst hw
   rw[HS.out]
   have hend:=mZ hok HS.out hrd hc3 hm3 hl4 hn3 hbe
   clear hv3
   go_wp2
   go_ret
   exact hend
def pG (w:World) (N M:Nat) (e:Ending) (w':World):Prop:=
 ∃m up n:Nat,e= .returned (.tuple #[.int .i64 m,.int .i64 up])/\1<=m/\m<65536/\up<=dl 65536 N/\m*M*65536^up<=N/\w'=w.drewN n
theorem Dl {N M A t m up e:Nat} (hM:M<=t*65536^(dl 65536 M-1)) (hup:dl 65536 M-1+up=e) (hm:m*t<=A) (hN:A*65536^e<=N):m*M*65536^up<=N:=by
 have h1:m*M*65536^up<=m*(t*65536^(dl 65536 M-1))*65536^up:=Nat.mul_le_mul_right _ (Nat.mul_le_mul_left _ hM)
 have h2:m*(t*65536^(dl 65536 M-1))*65536^up=m*t*65536^e:=by
  rw[<-hup,Nat.pow_add,Nat.mul_assoc,Nat.mul_assoc,Nat.mul_assoc]
 have h3:m*t*65536^e<=A*65536^e:=Nat.mul_le_mul_right _ hm
 omega
theorem Gr {N:Nat} (h:0<dl 65536 N):N<=(lg (dg 65536 N) (dl 65536 N-1)+1)*65536^(dl 65536 N-1)/\lg (dg 65536 N) (dl 65536 N-1)*65536^(dl 65536 N-1)<=N/\0<lg (dg 65536 N) (dl 65536 N-1):=by
 obtain⟨h1,h2⟩:=lD (b:=65536) (by omega) h
 have h3:N%65536^(dl 65536 N-1)<65536^(dl 65536 N-1):=Nat.mod_lt _ (Nat.pow_pos (by omega))
 rw[Nat.add_mul]
 refine⟨by omega,by omega,h2⟩
theorem OM {N:Nat} (h:1<dl 65536 N):(65536*lg (dg 65536 N) (dl 65536 N-1)+lg (dg 65536 N) (dl 65536 N-2))*65536^(dl 65536 N-2)<=N:=by
 have h1:=iM 65536 (dg 65536 N) (dl 65536 N-2)
 have h2:=fQ 65536 (dg 65536 N) (dl 65536 N-2)
 have h3:=fQ 65536 (dg 65536 N) (dl 65536 N-2+1)
 have hz:(dg 65536 N).drop (dl 65536 N-2+1+1)=[]:=List.drop_eq_nil_of_le (by rw[aB];omega)
 rw[hz] at h3
 rw[show dl 65536 N-2+1=dl 65536 N-1 from by omega] at h2 h3
 simp only [vl,Nat.mul_zero,Nat.add_zero] at h3
 rw[h3] at h2
 rw[cF (by omega),h2] at h1
 rw[Nat.mul_comm,Nat.add_comm (65536*_)]
 omega
set_option maxRecDepth 100000 in
theorem Gt (v1 v2:Value) (N M:Nat) (w:World) (h1:Dg w .i64 65536 v1 N) (h2:Dg w .i64 65536 v2 M) (hle:M<=N) (hpos:0<M) (hb:dl 65536 N<=1000000):
 CP 271 #[v1,v2] w (pG w N M):=by
 obtain⟨ad1,cap1,rfl,r1,c1,m1,l1,n1⟩:=h1
 obtain⟨ad2,cap2,rfl,r2,c2,m2,l2,n2⟩:=h2
 rw[aB] at l1 l2 c1 c2 ⊢
 rw[aB]
 have hdd:=jq (b:=65536) (by omega) hle
 have hp2:=eU (b:=65536) (by omega) hpos
 have hp1:0<dl 65536 N:=by omega
 obtain⟨tb1,tb2,tb3⟩:=Gr hp2
 obtain⟨ta1,ta2,ta3⟩:=Gr hp1
 have htwo:=Lib.hid (OM (N:=N))
 have ya:lg (dg 65536 N) (dl 65536 N-1)<65536:=di (cG (b:=65536) (by omega) N) (by omega) _
 have yb:lg (dg 65536 M) (dl 65536 M-1)<65536:=di (cG (b:=65536) (by omega) M) (by omega) _
 have yc:lg (dg 65536 N) (dl 65536 N-2)<65536:=di (cG (b:=65536) (by omega) N) (by omega) _
 have PB:=Lib.hid (fun(A m up e:Nat)=>Dl (N:=N) (M:=M) (A:=A) (t:=lg (dg 65536 M) (dl 65536 M-1)+1) (m:=m) (up:=up) (e:=e) tb1)
 obtain⟨b,off,rfl,_,hc⟩:=r1.get (by rw[aB];omega)
 obtain⟨b',off',rfl,_,hc'⟩:=r2.get (by rw[aB];omega)
 have hc1:=hc (dl 65536 N-1) (by rw[aB];omega)
 have hc2:=hc' (dl 65536 M-1) (by rw[aB];omega)
 have HC:=Lib.hid hc
 obtain⟨A,hA⟩:∃A,A=lg (dg 65536 N) (dl 65536 N-1):=⟨_,rfl⟩
 obtain⟨B,hB⟩:∃B,B=lg (dg 65536 M) (dl 65536 M-1):=⟨_,rfl⟩
 rw[<-hA] at ta2 ta3 ya hc1 htwo
 rw[<-hB] at PB tb3 yb hc2
 have TA:=Lib.hid ta2
 have HLE:=Lib.hid hle
 have hnb:=Lib.hid (show dl 65536 N-1+1=dl 65536 N from by omega)
 obtain⟨d1,hd1⟩:∃d1:Nat,d1=dl 65536 N:=⟨_,rfl⟩
 obtain⟨d2,hd2⟩:∃d2:Nat,d2=dl 65536 M:=⟨_,rfl⟩
 have HD1:=Lib.hid hd1;have HD2:=Lib.hid hd2
 rw[<-hd1] at c1 l1 hdd hb hp1 hc1 ⊢
 rw[<-hd2] at c2 l2 hdd hp2 hc2 ⊢
 clear hA hB hd1 hd2 tb1 tb2 ta1 ta2 r1 r2 hc hc' hle
 by_cases q:B+1<=A
 ·obtain⟨Q,hQ⟩:∃Q,Q=A/(B+1):=⟨_,rfl⟩
  obtain⟨K,hK⟩:∃K,K=d1-d2:=⟨_,rfl⟩
  have hQ1:Q*(B+1)<=A:=by rw[hQ];exact Nat.div_mul_le_self _ _
  have hQ2:Q<65536:=by rw[hQ];exact Nat.lt_of_le_of_lt (Nat.div_le_self _ _) ya
  have hQ3:1<=Q:=by rw[hQ];exact(Nat.le_div_iff_mul_le (by omega)).2 (by omega)
  have hfin:pG w N M (.returned (.tuple #[.int .i64 Q,.int .i64 K])) w:=by
   exact⟨Q,K,0,rfl,hQ3,hQ2,by rw[<-HD1.out];omega,PB.out A _ _ (dl 65536 N-1) (by rw[<-HD1.out,<-HD2.out];omega) hQ1 TA.out,rfl⟩
  have HF:=Lib.hid hfin
  have e1:(A:Int)/((B:Int)+1)=(Q:Int):=by rw[hQ,Int.natCast_ediv];rfl
  have e2:(d1:Int)-(d2:Int)=(K:Int):=by omega
  clear hfin hQ hK hQ1 htwo PB HC TA
  go_enter Tryz.func271,Tryz.ntmps271
  go_wp2
  go_ret2
  exact HF.out
 ·by_cases qk:d2<d1
  ·have hc3:=HC.out (dl 65536 N-2) (by rw[aB,<-HD1.out];omega)
   obtain⟨A2,hA2⟩:∃A2,A2=lg (dg 65536 N) (dl 65536 N-2):=⟨_,rfl⟩
   have h2:=htwo.out (by rw[<-HD1.out];omega)
   rw[<-hA2] at yc h2 hc3
   obtain⟨X,hX⟩:∃X,X=(65536*A+A2)/(B+1):=⟨_,rfl⟩
   have hq1:1<=X:=by rw[hX];exact(Nat.le_div_iff_mul_le (by omega)).2 (by omega)
   have hq2:X*(B+1)<=65536*A+A2:=by rw[hX];exact Nat.div_mul_le_self _ _
   have hres:∀(n:Nat) (u1 u2:Int),u1=((min X 65535:Nat):Int)->u2=((d1-d2-1:Nat):Int)->pG w N M (.returned (.tuple #[.int .i64 u1,.int .i64 u2])) (w.drewN n):=fun n u1 u2 g1 g2=>by
    subst g1;subst g2
    refine⟨min X 65535,d1-d2-1,n,rfl,by omega,by omega,by rw[<-HD1.out];omega,PB.out (65536*A+A2) _ _ (dl 65536 N-2) (by rw[<-HD1.out,<-HD2.out];omega) (Nat.le_trans (Nat.mul_le_mul_right _ (Nat.min_le_left _ _)) hq2) h2,rfl⟩
   have e1:(65536*(A:Int)+(A2:Int))/((B:Int)+1)=(X:Int):=by rw[hX,Int.natCast_ediv];rfl
   have HF:=Lib.hid hres
   have hX2:X<=4295032831:=Nat.le_trans (by rw[hX];exact Nat.div_le_self _ _) (by omega)
   rw[show dl 65536 N-2=d1-2 from by rw[<-HD1.out]] at hc3
   clear hres hX hA2 h2 htwo HC TA hq1 hq2
   obtain⟨K,hK⟩:∃K,K=d1-d2:=⟨_,rfl⟩
   have e2:(d1:Int)-(d2:Int)=(K:Int):=by omega
   have hK0:0<K:=by omega
   rw[<-hK] at HF
   clear hK
   have j1:(d1:Int)-2<(d1:Int):=by omega
   go_enter Tryz.func271,Tryz.ntmps271
   go_upto_region 7 with fail
   go_quiet (fail)
   go_wp2
   go_ret2
   exact HF.out _ _ _ (by omega) (by omega)
  ·have hfin:pG w N M (.returned (.tuple #[.int .i64 1,.int .i64 0])) w:=
    ⟨1,0,0,rfl,by omega,by omega,by omega,by have:=HLE.out;simpa using this,rfl⟩
   have HF:=Lib.hid hfin
   clear hfin htwo
   go_enter Tryz.func271,Tryz.ntmps271
   go_wp2
   go_ret2
   exact HF.out
end
section
theorem Il:dg 65536 1=[1]:=by
 have:=lH (b:=65536) (by omega) (xs:=[1]) (kI (by omega)) (by intro _;show(1:Nat)≠0;omega)
 simpa[vl] using this
theorem Nr (w:World) (T:TypeId):Dg (w.alloc (.cells #[.int .i64 1] T)) .i64 65536 (.slice (some ⟨w.heap.size,0,none⟩) 1 1) 1:=by
 have hr:Row (w.alloc (.cells #[.int .i64 1] T)) .i64 T w.heap.size w.heap.size 1 [1]:=⟨World.ownsRow_lit w #[.int .i64 1] 1 (Nat.le_refl _) (by unfold maxLen;omega) (by simp)⟩
 unfold Dg
 rw[Il]
 exact hr.sq (by simp)
def GW (w:World) (N M:Nat) (e:Ending) (w':World):Prop:=
 ∃v1 v2,e= .returned (.tuple #[v1,v2])/\Dg w' .i64 65536 v1 (N/M)/\Dg w' .i64 65536 v2 (if M=0 then 0 else N%M)/\Below w.heap.size w w'
theorem Lu {N M Q c:Nat} (h:Q*M+c=N) (hc:c<M):Q=N/M/\c=N%M:=by
 have hm:0<M:=by omega
 rw[<-h,Nat.add_comm,Nat.add_mul_div_right _ _ hm,Nat.add_mul_mod_self_right,Nat.div_eq_of_lt hc,Nat.mod_eq_of_lt hc]
 omega
set_option maxRecDepth 100000 in
theorem AQ (v1 v2:Value) (N M:Nat) (w:World) (h1:Dg w .i64 65536 v1 N) (h2:Dg w .i64 65536 v2 M) (hb:dl 65536 N<=10000) (hb2:dl 65536 M<=10000):
 CP 238 #[v1,v2] w (GW w N M):=by
 by_cases hM:M=0
 ·subst hM
  obtain⟨ad2,cap2,rfl,r2,c2,m2,l2,n2⟩:=h2
  have hl:(dg 65536 0).length =0:=by rw[gf];rfl
  rw[hl]
  clear r2 c2 m2 l2 n2 hl
  go_enter Tryz.func238,Tryz.ntmps238
  go_wp2
  go_ret2
  refine⟨_,_,rfl,?_,?_,((Below.refl _ _).alloc (Nat.le_refl _) _).alloc (by simp) _⟩
  ·rw[Nat.div_zero];exact Dg.zero _ _ _ _ (by unfold maxLen;omega) (fun h=>by cases h)
  ·rw[if_pos rfl];exact Dg.zero _ _ _ _ (by unfold maxLen;omega) (fun h=>by cases h)
 ·have hMp:0<M:=by omega
  have HM0:=Lib.hid hM
  have H2:=Lib.hid h2
  obtain⟨ad2,cap2,rfl,_,_,_,_,_⟩:=h2
  have hlp:0<(dg 65536 M).length :=by rw[aB];exact eU (by omega) hMp
  obtain⟨d2,hd2⟩:∃d2,d2=(dg 65536 M).length :=⟨_,rfl⟩
  rw[<-hd2] at hlp H2 ⊢
  have hd0:((d2:Int) == 0)=false:=by simp;omega
  clear hd2 hM
  go_enter Tryz.func238,Tryz.ntmps238
  go_wp2
  go_loopg [0,6] N (fun g a q wr=>∃Q:Nat,Dg wr .i64 65536 a g/\Dg wr .i64 65536 q Q/\Q*M+g=N/\Below w.heap.size w wr)
  case atStart=>
   have hb0:=(Below.refl w.heap.size w).alloc (Nat.le_refl _) (.cells #[] 3)
   exact⟨0,h1.below hb0,Dg.zero _ _ _ _ (by unfold maxLen;omega) (fun h=>by cases h),by omega,hb0⟩
  case round=>
   obtain⟨Q,ha,hq,hsum,hbe⟩:=hrel
   have HS:=Lib.hid hsum
   have h2':=H2.out.below hbe
   have hgl:gk<=N:=by omega
   have hQl:Q<=N:=by have:=Nat.le_mul_of_pos_right Q hMp;omega
   have DG:=Lib.hid (Nat.le_trans (jq (b:=65536) (by omega) hgl) hb)
   have DQ:=Lib.hid (Nat.le_trans (jq (b:=65536) (by omega) hQl) hb)
   have HG:=Lib.hid (Ru (p:=gk) (q:=M))
   clear hsum hgl hQl h1
   go_wp2_with fail
   refine(yB _ _ gk M _ ha h2').mono ?_
   intro e wa hh
   obtain⟨rfl,bb,_⟩:=jw hh
   have ha:=ha.below bb;have hq:=hq.below bb;have h2':=h2'.below bb
   have hbe:=aF hbe bb
   clear hh bb
   obtain⟨c,hc⟩:∃c,c=c3 gk M:=⟨_,rfl⟩
   rw[<-hc] at HG ⊢
   clear hc
   by_cases hle:M<=gk
   ·have hc0:0<=c:=HG.out.2 hle
    have HLE:=Lib.hid hle
    clear hle
    go_wp2_with fail
    refine(Gt _ _ gk M _ ha h2' HLE.out hMp (Nat.le_trans DG.out (by omega))).mono ?_
    rintro e wb ⟨m,up,n,rfl,hm1,hm2,hup,hmul,hwb⟩
    have bb:Below wa.heap.size wa wb:=by rw[hwb];exact nC (Below.refl _ _) n
    have ha:=ha.below bb;have hq:=hq.below bb;have h2':=h2'.below bb
    have hbe:=aF hbe bb
    have HMUL:=Lib.hid hmul
    have hpow:1<=65536^up:=Nat.pow_pos (by omega)
    have hmp:m*65536^up<=gk:=by
     have e:m*M*65536^up=m*65536^up*M:=by rw[Nat.mul_right_comm]
     have:=Nat.le_mul_of_pos_right (m*65536^up) hMp
     omega
    have hmp1:1<=m*65536^up:=Nat.mul_pos hm1 hpow
    have HMP:=Lib.hid hmp;have HMP1:=Lib.hid hmp1
    have hup2:up<=10000:=Nat.le_trans hup DG.out
    clear hwb bb hmul hpow hmp hmp1 hup
    go_wp2_with fail
    have ho:=Nr wb 3
    have bb:=(Below.refl wb.heap.size wb).alloc (Nat.le_refl _) (.cells #[.int .i64 1] 3)
    refine(pu _ 1 m up _ ho hm2 (by omega) (Nat.le_trans (fT (by omega) (k:=1) (by omega)) (by omega))).mono ?_
    rintro e wc ⟨v3,rfl,d3,bc⟩
    have bb:=aF bb bc
    have ha:=ha.below bb;have hq:=hq.below bb;have h2':=h2'.below bb
    have hbe:=aF hbe bb
    rw[Nat.one_mul] at d3
    clear bb bc ho
    go_wp2_with fail
    refine(tL _ _ Q (m*65536^up) _ hq d3 ⟨Nat.le_trans DQ.out (by omega),Nat.le_trans (jq (by omega) HMP.out) (Nat.le_trans DG.out (by omega))⟩).mono ?_
    rintro e wd ⟨v4,rfl,d4,bb⟩
    have ha:=ha.below bb;have h2':=h2'.below bb
    have hbe:=aF hbe bb
    clear bb d3 hq
    go_wp2_with fail
    refine(pu _ M m up _ h2' hm2 (by omega) (by omega)).mono ?_
    rintro e we ⟨v5,rfl,d5,bb⟩
    have ha:=ha.below bb;have d4:=d4.below bb
    have hbe:=aF hbe bb
    have hcom:M*m*65536^up=m*M*65536^up:=by rw[Nat.mul_comm M]
    rw[hcom] at d5
    clear bb h2' hcom
    go_wp2_with fail
    refine(tA _ _ gk (m*M*65536^up) _ ha d5 HMUL.out (Nat.le_trans DG.out (by omega))).mono ?_
    rintro e wf ⟨v6,rfl,d6,bb⟩
    have d4:=d4.below bb
    have hbe:=aF hbe bb
    clear bb ha d5
    go_wp2
    go_roundg (gk-m*M*65536^up)
    case measure=>
     have e:m*M*65536^up=m*65536^up*M:=by rw[Nat.mul_right_comm]
     have h5:=Nat.le_mul_of_pos_right (m*65536^up) hMp
     have h6:=HMP1.out
     have h7:=HMUL.out
     omega
    case rel=>
     refine⟨Q+m*65536^up,d6,d4,?_,hbe⟩
     have e:m*M*65536^up=m*65536^up*M:=by rw[Nat.mul_right_comm]
     rw[Nat.add_mul,<-e]
     have h6:=HS.out
     have h7:=HMUL.out
     omega
   ·have hc0:¬0<=c:=fun h=>hle (HG.out.1 h)
    obtain⟨e1,e2⟩:=Lu HS.out (by omega)
    have E1:=Lib.hid e1;have E2:=Lib.hid e2
    clear e1 e2 hle
    go_wp2
    go_ret2
    exact⟨_,_,rfl,by rw[<-E1.out];exact hq,by rw[if_neg HM0.out,<-E2.out];exact ha,hbe⟩
end
end
end Go.Proofs.YtgdpkknapcgcbaaGreatDoor
