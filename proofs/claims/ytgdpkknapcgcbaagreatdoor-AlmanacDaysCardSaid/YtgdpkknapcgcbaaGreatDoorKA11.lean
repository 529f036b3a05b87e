import Derived.Test.YtgdpkknapcgcbaaGreatDoorKA10
namespace Go.Proofs.YtgdpkknapcgcbaaGreatDoor
open Go.RowKit
set_option maxRecDepth 100000
set_option linter.unusedVariables false
set_option maxHeartbeats 8000000
section
section
def xF (w:World) (d N M:Nat) (o c i:Value) (wr:World):Prop:=
 ∃(k cc:Nat) (L:List Nat),k<=d/\i= .int .i64 k/\c= .int .i64 cc/\cc<=1/\L.length=k/\okb 65536 L/\Acc wr .i64 3 w.heap.size o L/\Below w.heap.size w wr/\
  vl 65536 L+vl 65536 ((dg 65536 M).take k)=vl 65536 ((dg 65536 N).take k)+cc*65536^k
theorem Bv {d cc Z X Y:Nat} (h:Z+Y=X+cc*65536^d) (hz:Z<65536^d) (hcc:cc<=1) (hle:Y<=X):Z=X-Y:=by
 by_cases hc:cc=0
 ·subst hc;omega
 ·obtain rfl:cc=1:=by omega
  omega
set_option maxRecDepth 100000 in
theorem pB (v1 v2:Value) (N M:Nat) (w:World) (h1:Dg w .i64 65536 v1 N) (h2:Dg w .i64 65536 v2 M) (hle:M<=N) (hb:dl 65536 N<=1000000):
 CP 195 #[v1,v2] w (gT w (N-M)):=by
 obtain⟨ad1,cap1,rfl,r1,c1,m1,l1,n1⟩:=h1
 obtain⟨ad2,cap2,rfl,r2,c2,m2,l2,n2⟩:=h2
 rw[aq] at l1 l2 c1 c2 ⊢
 rw[aq]
 obtain⟨i0,hi,hz0,hz1,hz2⟩:=info_parts Tryz.info3
 have hdd:=gD (b:=65536) (by omega) hle
 have HLE:=Lib.hid hle;clear hle
 obtain⟨d1,hd1⟩:∃d1:Nat,d1=dl 65536 N:=⟨_,rfl⟩
 obtain⟨d2,hd2⟩:∃d2:Nat,d2=dl 65536 M:=⟨_,rfl⟩
 rw[<-hd1] at c1 l1 hdd hb ⊢
 rw[<-hd2] at c2 l2 hdd ⊢
 have HD1:=Lib.hid hd1;have HD2:=Lib.hid hd2
 clear hd1 hd2
 go_enter Tryz.func195,Tryz.ntmps195
 go_wp2
 go_loopw [5,6,12] (fun o c i wr=>xF w d1 N M o c i wr) (fun _ _ i _=>d1-(intOf i).toNat)
 case atStart=>exact⟨0,0,[],by omega,rfl,rfl,by omega,rfl,lr _,Acc.empty w .i64 3 w.heap.size (Nat.le_refl _),(Below.refl _ _).alloc (Nat.le_refl _) _,by simp[vl]⟩
 case round=>
  obtain⟨k,cc,L,hk,rfl,rfl,hcc,hlen,hok,hacc,hbe,hmath⟩:=hrel
  have HM:=Lib.hid hmath;have HLN:=Lib.hid hlen
  have hll:L.length<=2199023255552:=by omega
  clear hmath hlen
  by_cases hlt:k<d1
  ·have x1:lg (dg 65536 N) k<65536:=cC (bM (b:=65536) (by omega) N) (by omega) k
   have x2:lg (dg 65536 M) k<65536:=cC (bM (b:=65536) (by omega) M) (by omega) k
   obtain⟨b,off,ha,_,hc⟩:=(r1.below hbe).get (by rw[aq,<-HD1.out];omega)
   have hc:=hc k (by rw[aq,<-HD1.out];exact hlt)
   have r2':=r2.below hbe
   have HR1:=Lib.hid r1;have HR2:=Lib.hid r2
   obtain⟨y,hy⟩:∃y,y=lg (dg 65536 M) k:=⟨_,rfl⟩
   have HY:=Lib.hid hy
   obtain⟨r,c',hcr⟩:∃r c':Nat,r<65536/\c'<=1/\r+y+cc=lg (dg 65536 N) k+c'*65536/\(c'=1↔lg (dg 65536 N) k<y+cc):=by
    by_cases q:lg (dg 65536 N) k<y+cc
    ·exact⟨lg (dg 65536 N) k+65536-y-cc,1,by omega,by omega,by omega,by simp[q]⟩
    ·exact⟨lg (dg 65536 N) k-y-cc,0,by omega,by omega,by omega,by simp;omega⟩
   obtain⟨hr,hc1,hsum,hiff⟩:=hcr
   have hstep:=vm (y:=y) HM.out hsum
   have hfin:∀(o:Value) (w':World) (z zc:Int),Acc w' .i64 3 w.heap.size o (L++[r])->Below w.heap.size wr w'->z=(k:Int)+1->zc=(c':Int)->xF w d1 N M o (.int .i64 zc) (.int .i64 z) w':=by
    intro o w' z zc ha2 hb2 hz hzc
    exact⟨k+1,c',L++[r],by omega,by rw[hz];rfl,by rw[hzc],hc1,by simp;exact HLN.out,gI hok (jM hr),ha2,hbe.trans hb2,by rw[iS,HLN.out,a5,a5,<-HY.out];exact hstep⟩
   have HF:=Lib.hid hfin
   subst ha
   clear hstep hfin r1 r2
   rw[<-hy] at x2
   by_cases q2:k<d2
   ·obtain⟨b',off',ha',_,hc'⟩:=r2'.get (by rw[aq,<-HD2.out];omega)
    have hc':=hc' k (by rw[aq,<-HD2.out];exact q2)
    rw[<-hy] at hc'
    subst ha'
    clear hy r2'
    by_cases hneg:lg (dg 65536 N) k<y+cc
    ·have e1:c'=1:=hiff.2 hneg
     clear hiff
     subst e1
     go_wp2_with (at_builtin;refine fB wr rfl _ _ 41 rfl .i64 3 i0 8 Tryz.underlying41 hi hz0 hz1 hz2 (by decide) w.heap.size _ L hacc rfl _ r ?_ rfl hll hbe.size ?_)
     ·omega
     ·intro v' w' hacc2 hbel2
      clear hacc
      go_wp2
      go_roundw
      case rel=>exact HF.out _ _ _ _ hacc2 hbel2 rfl rfl
      case measure=>simp[intOf];omega
    ·have e1:c'=0:=by
      by_cases q:c'=1
      ·exact absurd (hiff.1 q) hneg
      ·omega
     clear hiff
     subst e1
     go_wp2_with (at_builtin;refine fB wr rfl _ _ 41 rfl .i64 3 i0 8 Tryz.underlying41 hi hz0 hz1 hz2 (by decide) w.heap.size _ L hacc rfl _ r ?_ rfl hll hbe.size ?_)
     ·omega
     ·intro v' w' hacc2 hbel2
      clear hacc
      go_wp2
      go_roundw
      case rel=>exact HF.out _ _ _ _ hacc2 hbel2 rfl rfl
      case measure=>simp[intOf];omega
   ·have hy0:y=0:=by rw[hy];exact dH (by rw[aq,<-HD2.out];omega)
    clear hy r2'
    by_cases hneg:lg (dg 65536 N) k<y+cc
    ·have e1:c'=1:=hiff.2 hneg
     clear hiff
     subst e1
     subst hy0
     go_wp2_with (at_builtin;refine fB wr rfl _ _ 41 rfl .i64 3 i0 8 Tryz.underlying41 hi hz0 hz1 hz2 (by decide) w.heap.size _ L hacc rfl _ r ?_ rfl hll hbe.size ?_)
     ·omega
     ·intro v' w' hacc2 hbel2
      clear hacc
      go_wp2
      go_roundw
      case rel=>exact HF.out _ _ _ _ hacc2 hbel2 rfl rfl
      case measure=>simp[intOf];omega
    ·have e1:c'=0:=by
      by_cases q:c'=1
      ·exact absurd (hiff.1 q) hneg
      ·omega
     clear hiff
     subst e1
     subst hy0
     go_wp2_with (at_builtin;refine fB wr rfl _ _ 41 rfl .i64 3 i0 8 Tryz.underlying41 hi hz0 hz1 hz2 (by decide) w.heap.size _ L hacc rfl _ r ?_ rfl hll hbe.size ?_)
     ·omega
     ·intro v' w' hacc2 hbel2
      clear hacc
      go_wp2
      go_roundw
      case rel=>exact HF.out _ _ _ _ hacc2 hbel2 rfl rfl
      case measure=>simp[intOf];omega
  ·have hkd:k=d1:=by omega
   have hsub:vl 65536 L=N-M:=by
    have hm:=HM.out
    rw[bA (by rw[aq,<-HD2.out];omega),bA (by rw[aq,<-HD1.out];omega),bJ (by omega),bJ (by omega)] at hm
    have hz:=fV hok
    rw[HLN.out] at hz
    exact Bv hm hz hcc HLE.out
   have HS:=Lib.hid hsub
   have hsq:=hacc.sq (by rw[HLN.out];omega)
   have hl4:L.length<=1099511627776:=by rw[HLN.out];omega
   clear hacc hsub r1 r2 hkd
   go_wp2_with fail
   obtain⟨ad3,cap3,hv3,hrd,hc3,hm3,hl3,hn3⟩:=hsq
   rw[hv3]
   refine(hC 65536 (by omega) _ _ _ L _ rfl hrd hok (by omega) hc3 hn3).mono ?_
   rintro e w1 ⟨rfl,hw⟩
   have hw:=hw.symm;subst hw
   rw[HS.out]
   have hend:=kO hok HS.out hrd hc3 hm3 hl4 hn3 hbe
   clear hv3
   go_wp2
   go_ret
   exact hend
def mc (w:World) (N M:Nat) (e:Ending) (w':World):Prop:=
 ∃m up n:Nat,e= .returned (.tuple #[.int .i64 m,.int .i64 up])/\1<=m/\m<65536/\up<=dl 65536 N/\m*M*65536^up<=N/\w'=w.drewN n
theorem zq {N M A t m up e:Nat} (hM:M<=t*65536^(dl 65536 M-1)) (hup:dl 65536 M-1+up=e) (hm:m*t<=A) (hN:A*65536^e<=N):m*M*65536^up<=N:=by
 have h1:m*M*65536^up<=m*(t*65536^(dl 65536 M-1))*65536^up:=Nat.mul_le_mul_right _ (Nat.mul_le_mul_left _ hM)
 have h2:m*(t*65536^(dl 65536 M-1))*65536^up=m*t*65536^e:=by
  rw[<-hup,Nat.pow_add,Nat.mul_assoc,Nat.mul_assoc,Nat.mul_assoc]
 have h3:m*t*65536^e<=A*65536^e:=Nat.mul_le_mul_right _ hm
 omega
theorem Bt {N:Nat} (h:0<dl 65536 N):N<=(lg (dg 65536 N) (dl 65536 N-1)+1)*65536^(dl 65536 N-1)/\lg (dg 65536 N) (dl 65536 N-1)*65536^(dl 65536 N-1)<=N/\0<lg (dg 65536 N) (dl 65536 N-1):=by
 obtain⟨h1,h2⟩:=ji (b:=65536) (by omega) h
 have h3:N%65536^(dl 65536 N-1)<65536^(dl 65536 N-1):=Nat.mod_lt _ (Nat.pow_pos (by omega))
 rw[Nat.add_mul]
 refine⟨by omega,by omega,h2⟩
theorem JG {N:Nat} (h:1<dl 65536 N):(65536*lg (dg 65536 N) (dl 65536 N-1)+lg (dg 65536 N) (dl 65536 N-2))*65536^(dl 65536 N-2)<=N:=by
 have h1:=fY 65536 (dg 65536 N) (dl 65536 N-2)
 have h2:=f6 65536 (dg 65536 N) (dl 65536 N-2)
 have h3:=f6 65536 (dg 65536 N) (dl 65536 N-2+1)
 have hz:(dg 65536 N).drop (dl 65536 N-2+1+1)=[]:=List.drop_eq_nil_of_le (by rw[aq];omega)
 rw[hz] at h3
 rw[show dl 65536 N-2+1=dl 65536 N-1 from by omega] at h2 h3
 simp only [vl,Nat.mul_zero,Nat.add_zero] at h3
 rw[h3] at h2
 rw[bJ (by omega),h2] at h1
 rw[Nat.mul_comm,Nat.add_comm (65536*_)]
 omega
set_option maxRecDepth 100000 in
theorem Av (v1 v2:Value) (N M:Nat) (w:World) (h1:Dg w .i64 65536 v1 N) (h2:Dg w .i64 65536 v2 M) (hle:M<=N) (hpos:0<M) (hb:dl 65536 N<=1000000):
 CP 271 #[v1,v2] w (mc w N M):=by
 obtain⟨ad1,cap1,rfl,r1,c1,m1,l1,n1⟩:=h1
 obtain⟨ad2,cap2,rfl,r2,c2,m2,l2,n2⟩:=h2
 rw[aq] at l1 l2 c1 c2 ⊢
 rw[aq]
 have hdd:=gD (b:=65536) (by omega) hle
 have hp2:=dL (b:=65536) (by omega) hpos
 have hp1:0<dl 65536 N:=by omega
 obtain⟨tb1,tb2,tb3⟩:=Bt hp2
 obtain⟨ta1,ta2,ta3⟩:=Bt hp1
 have htwo:=Lib.hid (JG (N:=N))
 have ya:lg (dg 65536 N) (dl 65536 N-1)<65536:=cC (bM (b:=65536) (by omega) N) (by omega) _
 have yb:lg (dg 65536 M) (dl 65536 M-1)<65536:=cC (bM (b:=65536) (by omega) M) (by omega) _
 have yc:lg (dg 65536 N) (dl 65536 N-2)<65536:=cC (bM (b:=65536) (by omega) N) (by omega) _
 have PB:=Lib.hid (fun(A m up e:Nat)=>zq (N:=N) (M:=M) (A:=A) (t:=lg (dg 65536 M) (dl 65536 M-1)+1) (m:=m) (up:=up) (e:=e) tb1)
 obtain⟨b,off,rfl,_,hc⟩:=r1.get (by rw[aq];omega)
 obtain⟨b',off',rfl,_,hc'⟩:=r2.get (by rw[aq];omega)
 have hc1:=hc (dl 65536 N-1) (by rw[aq];omega)
 have hc2:=hc' (dl 65536 M-1) (by rw[aq];omega)
 have HC:=Lib.hid hc
 obtain⟨A,hA⟩:∃A,A=lg (dg 65536 N) (dl 65536 N-1):=⟨_,rfl⟩
 obtain⟨B,hB⟩:∃B,B=lg (dg 65536 M) (dl 65536 M-1):=⟨_,rfl⟩
 rw[<-hA] at ta2 ta3 ya hc1 htwo
 rw[<-hB] at PB tb3 yb hc2
 have TA:=Lib.hid ta2
 have HLE:=Lib.hid hle
 have hnb:=Lib.hid (show dl 65536 N-1+1=dl 65536 N from by omega)
 obtain⟨d1,hd1⟩:∃d1:Nat,d1=dl 65536 N:=⟨_,rfl⟩
 obtain⟨d2,hd2⟩:∃d2:Nat,d2=dl 65536 M:=⟨_,rfl⟩
 have HD1:=Lib.hid hd1;have HD2:=Lib.hid hd2
 rw[<-hd1] at c1 l1 hdd hb hp1 hc1 ⊢
 rw[<-hd2] at c2 l2 hdd hp2 hc2 ⊢
 clear hA hB hd1 hd2 tb1 tb2 ta1 ta2 r1 r2 hc hc' hle
 by_cases q:B+1<=A
 ·obtain⟨Q,hQ⟩:∃Q,Q=A/(B+1):=⟨_,rfl⟩
  obtain⟨K,hK⟩:∃K,K=d1-d2:=⟨_,rfl⟩
  have hQ1:Q*(B+1)<=A:=by rw[hQ];exact Nat.div_mul_le_self _ _
  have hQ2:Q<65536:=by rw[hQ];exact Nat.lt_of_le_of_lt (Nat.div_le_self _ _) ya
  have hQ3:1<=Q:=by rw[hQ];exact(Nat.le_div_iff_mul_le (by omega)).2 (by omega)
  have hfin:mc w N M (.returned (.tuple #[.int .i64 Q,.int .i64 K])) w:=by
   exact⟨Q,K,0,rfl,hQ3,hQ2,by rw[<-HD1.out];omega,PB.out A _ _ (dl 65536 N-1) (by rw[<-HD1.out,<-HD2.out];omega) hQ1 TA.out,rfl⟩
  have HF:=Lib.hid hfin
  have e1:(A:Int)/((B:Int)+1)=(Q:Int):=by rw[hQ,Int.natCast_ediv];rfl
  have e2:(d1:Int)-(d2:Int)=(K:Int):=by omega
  clear hfin hQ hK hQ1 htwo PB HC TA
  go_enter Tryz.func271,Tryz.ntmps271
  go_wp2
  go_ret2
  exact HF.out
 ·by_cases qk:d2<d1
  ·have hc3:=HC.out (dl 65536 N-2) (by rw[aq,<-HD1.out];omega)
   obtain⟨A2,hA2⟩:∃A2,A2=lg (dg 65536 N) (dl 65536 N-2):=⟨_,rfl⟩
   have h2:=htwo.out (by rw[<-HD1.out];omega)
   rw[<-hA2] at yc h2 hc3
   obtain⟨X,hX⟩:∃X,X=(65536*A+A2)/(B+1):=⟨_,rfl⟩
   have hq1:1<=X:=by rw[hX];exact(Nat.le_div_iff_mul_le (by omega)).2 (by omega)
   have hq2:X*(B+1)<=65536*A+A2:=by rw[hX];exact Nat.div_mul_le_self _ _
   have hres:∀(n:Nat) (u1 u2:Int),u1=((min X 65535:Nat):Int)->u2=((d1-d2-1:Nat):Int)->mc w N M (.returned (.tuple #[.int .i64 u1,.int .i64 u2])) (w.drewN n):=fun n u1 u2 g1 g2=>by
    subst g1;subst g2
    refine⟨min X 65535,d1-d2-1,n,rfl,by omega,by omega,by rw[<-HD1.out];omega,PB.out (65536*A+A2) _ _ (dl 65536 N-2) (by rw[<-HD1.out,<-HD2.out];omega) (Nat.le_trans (Nat.mul_le_mul_right _ (Nat.min_le_left _ _)) hq2) h2,rfl⟩
   have e1:(65536*(A:Int)+(A2:Int))/((B:Int)+1)=(X:Int):=by rw[hX,Int.natCast_ediv];rfl
   have HF:=Lib.hid hres
   have hX2:X<=4295032831:=Nat.le_trans (by rw[hX];exact Nat.div_le_self _ _) (by omega)
   rw[show dl 65536 N-2=d1-2 from by rw[<-HD1.out]] at hc3
   clear hres hX hA2 h2 htwo HC TA hq1 hq2
   obtain⟨K,hK⟩:∃K,K=d1-d2:=⟨_,rfl⟩
   have e2:(d1:Int)-(d2:Int)=(K:Int):=by omega
   have hK0:0<K:=by omega
   rw[<-hK] at HF
   clear hK
   have j1:(d1:Int)-2<(d1:Int):=by omega
   go_enter Tryz.func271,Tryz.ntmps271
   go_upto_region 7 with fail
   go_quiet (fail)
   go_wp2
   go_ret2
   exact HF.out _ _ _ (by omega) (by omega)
  ·have hfin:mc w N M (.returned (.tuple #[.int .i64 1,.int .i64 0])) w:=
    ⟨1,0,0,rfl,by omega,by omega,by omega,by have:=HLE.out;simpa using this,rfl⟩
   have HF:=Lib.hid hfin
   clear hfin htwo
   go_enter Tryz.func271,Tryz.ntmps271
   go_wp2
   go_ret2
   exact HF.out
end
section
theorem Dn:dg 65536 1=[1]:=by
 have:=na (b:=65536) (by omega) (xs:=[1]) (jM (by omega)) (by intro _;show(1:Nat)≠0;omega)
 simpa[vl] using this
theorem FX (w:World) (T:TypeId):Dg (w.alloc (.cells #[.int .i64 1] T)) .i64 65536 (.slice (some ⟨w.heap.size,0,none⟩) 1 1) 1:=by
 have hr:Row (w.alloc (.cells #[.int .i64 1] T)) .i64 T w.heap.size w.heap.size 1 [1]:=⟨World.ownsRow_lit w #[.int .i64 1] 1 (Nat.le_refl _) (by unfold maxLen;omega) (by simp)⟩
 unfold Dg
 rw[Dn]
 exact hr.sq (by simp)
def DX (w:World) (N M:Nat) (e:Ending) (w':World):Prop:=
 ∃v1 v2,e= .returned (.tuple #[v1,v2])/\Dg w' .i64 65536 v1 (N/M)/\Dg w' .i64 65536 v2 (if M=0 then 0 else N%M)/\Below w.heap.size w w'
theorem FD {N M Q c:Nat} (h:Q*M+c=N) (hc:c<M):Q=N/M/\c=N%M:=by
 have hm:0<M:=by omega
 rw[<-h,Nat.add_comm,Nat.add_mul_div_right _ _ hm,Nat.add_mul_mod_self_right,Nat.div_eq_of_lt hc,Nat.mod_eq_of_lt hc]
 omega
set_option maxRecDepth 100000 in
theorem wg (v1 v2:Value) (N M:Nat) (w:World) (h1:Dg w .i64 65536 v1 N) (h2:Dg w .i64 65536 v2 M) (hb:dl 65536 N<=10000) (hb2:dl 65536 M<=10000):
 CP 238 #[v1,v2] w (DX w N M):=by
 by_cases hM:M=0
 ·subst hM
  obtain⟨ad2,cap2,rfl,r2,c2,m2,l2,n2⟩:=h2
  have hl:(dg 65536 0).length =0:=by rw[eN];rfl
  rw[hl]
  clear r2 c2 m2 l2 n2 hl
  go_enter Tryz.func238,Tryz.ntmps238
  go_wp2
  go_ret2
  refine⟨_,_,rfl,?_,?_,((Below.refl _ _).alloc (Nat.le_refl _) _).alloc (by simp) _⟩
  ·rw[Nat.div_zero];exact Dg.zero _ _ _ _ (by unfold maxLen;omega) (fun h=>by cases h)
  ·rw[if_pos rfl];exact Dg.zero _ _ _ _ (by unfold maxLen;omega) (fun h=>by cases h)
 ·have hMp:0<M:=by omega
  have HM0:=Lib.hid hM
  have H2:=Lib.hid h2
  obtain⟨ad2,cap2,rfl,_,_,_,_,_⟩:=h2
  have hlp:0<(dg 65536 M).length :=by rw[aq];exact dL (by omega) hMp
  obtain⟨d2,hd2⟩:∃d2,d2=(dg 65536 M).length :=⟨_,rfl⟩
  rw[<-hd2] at hlp H2 ⊢
  have hd0:((d2:Int) == 0)=false:=by simp;omega
  clear hd2 hM
  go_enter Tryz.func238,Tryz.ntmps238
  go_wp2
  go_loopg [0,6] N (fun g a q wr=>∃Q:Nat,Dg wr .i64 65536 a g/\Dg wr .i64 65536 q Q/\Q*M+g=N/\Below w.heap.size w wr)
  case atStart=>
   have hb0:=(Below.refl w.heap.size w).alloc (Nat.le_refl _) (.cells #[] 3)
   exact⟨0,h1.below hb0,Dg.zero _ _ _ _ (by unfold maxLen;omega) (fun h=>by cases h),by omega,hb0⟩
  case round=>
   obtain⟨Q,ha,hq,hsum,hbe⟩:=hrel
   have HS:=Lib.hid hsum
   have h2':=H2.out.below hbe
   have hgl:gk<=N:=by omega
   have hQl:Q<=N:=by have:=Nat.le_mul_of_pos_right Q hMp;omega
   have DG:=Lib.hid (Nat.le_trans (gD (b:=65536) (by omega) hgl) hb)
   have DQ:=Lib.hid (Nat.le_trans (gD (b:=65536) (by omega) hQl) hb)
   have HG:=Lib.hid (KY (p:=gk) (q:=M))
   clear hsum hgl hQl h1
   go_wp2_with fail
   refine(ug _ _ gk M _ ha h2').mono ?_
   intro e wa hh
   obtain⟨rfl,bb,_⟩:=gU hh
   have ha:=ha.below bb;have hq:=hq.below bb;have h2':=h2'.below bb
   have hbe:=aA hbe bb
   clear hh bb
   obtain⟨c,hc⟩:∃c,c=c3 gk M:=⟨_,rfl⟩
   rw[<-hc] at HG ⊢
   clear hc
   by_cases hle:M<=gk
   ·have hc0:0<=c:=HG.out.2 hle
    have HLE:=Lib.hid hle
    clear hle
    go_wp2_with fail
    refine(Av _ _ gk M _ ha h2' HLE.out hMp (Nat.le_trans DG.out (by omega))).mono ?_
    rintro e wb ⟨m,up,n,rfl,hm1,hm2,hup,hmul,hwb⟩
    have bb:Below wa.heap.size wa wb:=by rw[hwb];exact k6 (Below.refl _ _) n
    have ha:=ha.below bb;have hq:=hq.below bb;have h2':=h2'.below bb
    have hbe:=aA hbe bb
    have HMUL:=Lib.hid hmul
    have hpow:1<=65536^up:=Nat.pow_pos (by omega)
    have hmp:m*65536^up<=gk:=by
     have e:m*M*65536^up=m*65536^up*M:=by rw[Nat.mul_right_comm]
     have:=Nat.le_mul_of_pos_right (m*65536^up) hMp
     omega
    have hmp1:1<=m*65536^up:=Nat.mul_pos hm1 hpow
    have HMP:=Lib.hid hmp;have HMP1:=Lib.hid hmp1
    have hup2:up<=10000:=Nat.le_trans hup DG.out
    clear hwb bb hmul hpow hmp hmp1 hup
    go_wp2_with fail
    have ho:=FX wb 3
    have bb:=(Below.refl wb.heap.size wb).alloc (Nat.le_refl _) (.cells #[.int .i64 1] 3)
    refine(mz _ 1 m up _ ho hm2 (by omega) (Nat.le_trans (eL (by omega) (k:=1) (by omega)) (by omega))).mono ?_
    rintro e wc ⟨v3,rfl,d3,bc⟩
    have bb:=aA bb bc
    have ha:=ha.below bb;have hq:=hq.below bb;have h2':=h2'.below bb
    have hbe:=aA hbe bb
    rw[Nat.one_mul] at d3
    clear bb bc ho
    go_wp2_with fail
    refine(pN _ _ Q (m*65536^up) _ hq d3 ⟨Nat.le_trans DQ.out (by omega),Nat.le_trans (gD (by omega) HMP.out) (Nat.le_trans DG.out (by omega))⟩).mono ?_
    rintro e wd ⟨v4,rfl,d4,bb⟩
    have ha:=ha.below bb;have h2':=h2'.below bb
    have hbe:=aA hbe bb
    clear bb d3 hq
    go_wp2_with fail
    refine(mz _ M m up _ h2' hm2 (by omega) (by omega)).mono ?_
    rintro e we ⟨v5,rfl,d5,bb⟩
    have ha:=ha.below bb;have d4:=d4.below bb
    have hbe:=aA hbe bb
    have hcom:M*m*65536^up=m*M*65536^up:=by rw[Nat.mul_comm M]
    rw[hcom] at d5
    clear bb h2' hcom
    go_wp2_with fail
    refine(pB _ _ gk (m*M*65536^up) _ ha d5 HMUL.out (Nat.le_trans DG.out (by omega))).mono ?_
    rintro e wf ⟨v6,rfl,d6,bb⟩
    have d4:=d4.below bb
    have hbe:=aA hbe bb
    clear bb ha d5
    go_wp2
    go_roundg (gk-m*M*65536^up)
    case measure=>
     have e:m*M*65536^up=m*65536^up*M:=by rw[Nat.mul_right_comm]
     have h5:=Nat.le_mul_of_pos_right (m*65536^up) hMp
     have h6:=HMP1.out
     have h7:=HMUL.out
     omega
    case rel=>
     refine⟨Q+m*65536^up,d6,d4,?_,hbe⟩
     have e:m*M*65536^up=m*65536^up*M:=by rw[Nat.mul_right_comm]
     rw[Nat.add_mul,<-e]
     have h6:=HS.out
     have h7:=HMUL.out
     omega
   ·have hc0:¬0<=c:=fun h=>hle (HG.out.1 h)
    obtain⟨e1,e2⟩:=FD HS.out (by omega)
    have E1:=Lib.hid e1;have E2:=Lib.hid e2
    clear e1 e2 hle
    go_wp2
    go_ret2
    exact⟨_,_,rfl,by rw[<-E1.out];exact hq,by rw[if_neg HM0.out,<-E2.out];exact ha,hbe⟩
end
end
end Go.Proofs.YtgdpkknapcgcbaaGreatDoor
