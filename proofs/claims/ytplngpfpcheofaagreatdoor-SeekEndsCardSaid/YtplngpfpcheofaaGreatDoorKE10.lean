import Derived.Test.YtplngpfpcheofaaGreatDoorKE9
import Derived.OpenShut
import Derived.Deep.DeepCutAuto
namespace Go.Proofs.YtplngpfpcheofaaGreatDoor
open Go.RowKit
set_option maxRecDepth 100000
set_option linter.unusedVariables false
set_option maxHeartbeats 8000000
theorem aG {w:World} {a:Addr} {v:Value} (h:w.cell? a=some v):a.block<w.heap.size:=by
 by_cases hc:a.block<w.heap.size
 ·exact hc
 ·exfalso
  have hn:w.heap[a.block]?=none:=Array.getElem?_eq_none (by omega)
  simp[World.cell?,hn] at h
section
section
end
section
theorem uI (p q:Nat): -1≤c3 p q∧c3 p q≤1:=by unfold c3;split <;> (try split) <;> omega
theorem sU {N M m:Nat} (h1:N<B32^m) (h2:M<B32^m):N+M<B32^(m+1):=by
 rw[Nat.pow_succ,cn];rw[cn] at h1 h2;omega
end
section
theorem vg {p q:Nat}:0≤c3 p q↔q≤p:=by unfold c3;split <;> (try split) <;> omega
end
end
def xa (w:World) (d N M:Nat) (o i:Value) (wr:World):Prop:=
 ∃k:Nat,k≤d∧i= .int .i64 k∧Dg wr .i64 65536 o (N*vl 65536 ((dg 65536 M).take k))∧Below w.heap.size w wr
theorem mn {N M a b:Nat} (h1:dl 65536 N≤a) (h2:dl 65536 M≤b):dl 65536 (N*M)≤a+b:=by
 by_cases h0:M=0
 ·subst h0;rw[Nat.mul_zero,cU];omega
 apply dK (by omega)
 rw[Nat.pow_add]
 have e1:N<65536^a:=Nat.lt_of_lt_of_le (fg (by omega) N) (Nat.pow_le_pow_right (by omega) h1)
 have e2:M<65536^b:=Nat.lt_of_lt_of_le (fg (by omega) M) (Nat.pow_le_pow_right (by omega) h2)
 exact Nat.lt_of_lt_of_le (Nat.mul_lt_mul_of_pos_right e1 (by omega)) (Nat.mul_le_mul_left _ (by omega))
theorem ol (v1 v2:Value) (N M:Nat) (w:World) (h1:Dg w .i64 65536 v1 N) (h2:Dg w .i64 65536 v2 M) (hb1:dl 65536 N≤100000) (hb2:dl 65536 M≤100000):
 Calls Tryz.prog 109 #[v1,v2] w (fA w (N*M)):=by
 obtain⟨ad2,cap2,rfl,r2,c2,m2,l2,n2⟩:=h2
 rw[au]
 obtain⟨d,hd⟩:∃d:Nat,d=dl 65536 M:=⟨_,rfl⟩
 rw[←hd] at hb2 ⊢
 have HD:=Lib.hid hd;clear hd
 go_enter Tryz.func109,Tryz.ntmps109
 go_wp2
 go_loopw [5,11] (fun o i wr=>xa w d N M o i wr) (fun _ i _=>d-(intOf i).toNat)
 case atStart=>exact⟨0,Nat.zero_le _,rfl,Dg.zero _ _ _ _ (by unfold maxLen;omega) (fun h=>by cases h),(Below.refl _ _).alloc (Nat.le_refl _) _⟩
 case round=>
  obtain⟨k,hk,rfl,ho,hbe⟩:=hrel
  by_cases hlt:k<d
  ·obtain⟨b,off,ha,_,hc⟩:=(r2.below hbe).get (by rw[au,←HD.out];omega)
   have hc:=hc k (by rw[au,←HD.out];exact hlt)
   have lx:lg (dg 65536 M) k<65536:=bU (bn (b:=65536) (by omega) M) (by omega) k
   have HT:=Lib.hid (aR 65536 (dg 65536 M) k)
   have b1:dl 65536 (vl 65536 ((dg 65536 M).take k))≤100000:=Nat.le_trans (bA (by omega) (i5 (bn (by omega) M) k)) (by simp;rw[au,←HD.out];omega)
   have b2:dl 65536 (lg (dg 65536 M) k*65536^k)≤100001:=by
    refine Nat.le_trans (dK (b:=65536) (by omega) (k:=k+1) ?_) (by omega)
    rw[Nat.pow_succ,Nat.mul_comm (65536^k)]
    exact Nat.mul_lt_mul_of_pos_right lx (Nat.pow_pos (by omega))
   have B1:=Lib.hid (mn hb1 b1)
   have B2:=Lib.hid (mn hb1 b2)
   have h1':=h1.below hbe
   subst ha
   clear b1 b2 r2
   go_wp2_with fail
   refine(iY v1 N (lg (dg 65536 M) k) k _ h1' lx (by omega) (by omega)).mono ?_
   rintro e w1 ⟨v3,rfl,d3,bb⟩
   have ho:=ho.below bb
   have hbe2:=aa hbe bb
   clear bb h1'
   go_wp2_with fail
   rw[Nat.mul_assoc] at d3
   refine(kG _ v3 _ _ _ ho d3 ⟨Nat.le_trans B1.out (by omega),Nat.le_trans B2.out (by omega)⟩).mono ?_
   rintro e w2 ⟨v4,rfl,d4,bb⟩
   have hbe3:=aa hbe2 bb
   rw[←Nat.mul_add,←HT.out] at d4
   clear bb ho d3 hbe2
   go_wp2
   go_roundw
   case rel=>exact⟨k+1,by omega,by go_num,d4,hbe3⟩
   case measure=>simp[intOf];omega
  ·obtain rfl:k=d:=by omega
   rw[be (by rw[au,←HD.out];omega),bm (by omega)] at ho
   have hV:=Lib.hid (bm (b:=65536) (by omega) (N*M))
   clear r2
   go_wp2_with fail
   obtain⟨ad3,cap3,hv3,hrd,hc3,hm3,hl3,hn3⟩:=ho
   rw[hv3]
   refine(fw 65536 (by omega) _ _ _ (dg 65536 (N*M)) _ rfl hrd (bn (by omega) _) (by omega) hc3 hn3).mono ?_
   rintro e w1 ⟨rfl,hw⟩
   have hw:=hw.symm;subst hw
   rw[hV.out]
   clear hv3
   go_wp2
   go_ret
   exact⟨_,rfl,⟨_,_,rfl,hrd,hc3,hm3,hl3,hn3⟩,hbe⟩
def xi (w:World) (d N M:Nat) (i:Value) (wr:World):Prop:=
 ∃(k n:Nat),k≤d∧i= .int .i64 ((k:Int)-1)∧(∀j,k≤j→lg (dg 65536 N) j=lg (dg 65536 M) j)∧wr=w.drewN n
theorem kF (v1 v2:Value) (N M:Nat) (w:World) (h1:Dg w .i64 65536 v1 N) (h2:Dg w .i64 65536 v2 M):
 Calls Tryz.prog 117 #[v1,v2] w (jS w (.int .i64 (c3 N M))):=by
 obtain⟨ad1,cap1,rfl,r1,c1,m1,l1,n1⟩:=h1
 obtain⟨ad2,cap2,rfl,r2,c2,m2,l2,n2⟩:=h2
 rw[au] at l1 l2 c1 c2 ⊢
 rw[au]
 by_cases hlt:dl 65536 N<dl 65536 M
 ·have HC:=Lib.hid (fV (iU (b:=65536) (by omega) hlt))
  clear r1 r2
  go_enter Tryz.func117,Tryz.ntmps117
  go_wp2
  go_ret
  exact⟨ct HC.out.symm,0,rfl⟩
 ·by_cases hgt:dl 65536 M<dl 65536 N
  ·have HC:=Lib.hid (gW (iU (b:=65536) (by omega) hgt))
   clear r1 r2
   go_enter Tryz.func117,Tryz.ntmps117
   go_wp2
   go_ret
   exact⟨ct HC.out.symm,0,rfl⟩
  ·obtain⟨d,hd⟩:∃d:Nat,d=dl 65536 N:=⟨_,rfl⟩
   have hd2:d=dl 65536 M:=by omega
   rw[←hd] at l1 c1 ⊢
   rw[←hd2] at c2 ⊢
   have HD:=Lib.hid hd;have HD2:=Lib.hid hd2
   clear hd hd2 hlt hgt l2
   go_enter Tryz.func117,Tryz.ntmps117
   go_wp2
   go_loopw [5] (fun i wr=>xi w d N M i wr) (fun i _=>(intOf i+1).toNat)
   case atStart=>exact⟨d,0,Nat.le_refl _,rfl,fun j hj=>by rw[cH (by rw[au,←HD.out];exact hj),cH (by rw[au,←HD2.out];exact hj)],rfl⟩
   case round=>
    obtain⟨k,n,hk,rfl,ha,hw⟩:=hrel
    by_cases hp:0<k
    ·obtain⟨j,rfl⟩:∃j,k=j+1:=⟨k-1,by omega⟩
     have HA:=Lib.hid ha
     rw[show((j+1:Nat):Int)-1=(j:Int) from by omega]
     obtain⟨b,off,hx,_,hc⟩:=r1.get (by rw[au,←HD.out];omega)
     obtain⟨b',off',hy,_,hc'⟩:=r2.get (by rw[au,←HD2.out];omega)
     have hcx:wr.cell? ⟨b,off+j,none⟩=some (.int .i64 (lg (dg 65536 N) j:Nat)):=by rw[hw];exact hc j (by rw[au,←HD.out];omega)
     have hcy:wr.cell? ⟨b',off'+j,none⟩=some (.int .i64 (lg (dg 65536 M) j:Nat)):=by rw[hw];exact hc' j (by rw[au,←HD2.out];omega)
     have hjd:(j:Int)<(d:Int):=by omega
     have HW:=Lib.hid hw
     subst hx;subst hy
     clear hc hc' r1 r2 hw ha
     by_cases q1:lg (dg 65536 N) j<lg (dg 65536 M) j
     ·have HC:=Lib.hid (fV (mS (b:=65536) (by omega) (fun i hi=>HA.out i (by omega)) q1))
      go_upto_region 8 with fail
      go_quiet (fail)
      go_wp2
      go_ret
      exact⟨ct HC.out.symm,n+nq,by rw[HW.out,World.drewN_drewN]⟩
     ·by_cases q2:lg (dg 65536 M) j<lg (dg 65536 N) j
      ·have HC:=Lib.hid (gW (mS (b:=65536) (by omega) (fun i hi=>(HA.out i (by omega)).symm) q2))
       go_upto_region 8 with fail
       go_quiet (fail)
       go_upto_region 10 with fail
       obtain⟨wq,hq⟩:∃wq,wq=wr.drewN nq:=⟨_,rfl⟩
       have hcx':wq.cell? ⟨b,off+j,none⟩=some (.int .i64 (lg (dg 65536 N) j:Nat)):=by rw[hq];exact hcx
       have hcy':wq.cell? ⟨b',off'+j,none⟩=some (.int .i64 (lg (dg 65536 M) j:Nat)):=by rw[hq];exact hcy
       rw[←hq]
       have HQ:=Lib.hid (show ∃z,wq=w.drewN z from⟨n+nq,by rw[hq,HW.out,World.drewN_drewN]⟩)
       clear hq hcx hcy
       go_quiet (fail)
       go_wp2
       go_ret
       obtain⟨z,hz⟩:=HQ.out
       exact⟨ct HC.out.symm,z+nq,by rw[hz,World.drewN_drewN]⟩
      ·have he:lg (dg 65536 N) j=lg (dg 65536 M) j:=by omega
       have HE:=Lib.hid he
       clear he
       go_upto_region 8 with fail
       go_quiet (fail)
       go_upto_region 10 with fail
       obtain⟨wq,hq⟩:∃wq,wq=wr.drewN nq:=⟨_,rfl⟩
       have hcx':wq.cell? ⟨b,off+j,none⟩=some (.int .i64 (lg (dg 65536 N) j:Nat)):=by rw[hq];exact hcx
       have hcy':wq.cell? ⟨b',off'+j,none⟩=some (.int .i64 (lg (dg 65536 M) j:Nat)):=by rw[hq];exact hcy
       rw[←hq]
       have HQ:=Lib.hid (show ∃z,wq=w.drewN z from⟨n+nq,by rw[hq,HW.out,World.drewN_drewN]⟩)
       clear hq hcx hcy
       go_quiet (fail)
       go_wp2
       go_roundw
       case rel=>
        obtain⟨z,hz⟩:=HQ.out
        exact⟨j,z+nq,by omega,by go_num,fun i hi=>by
         by_cases e:i=j
         ·subst e;exact HE.out
         ·exact HA.out i (by omega),by rw[hz,World.drewN_drewN]⟩
       case measure=>simp[intOf]
    ·obtain rfl:k=0:=by omega
     have HC:=Lib.hid (mH (rI (b:=65536) (by omega) (fun j=>ha j (Nat.zero_le j))))
     have HW:=Lib.hid hw
     clear r1 r2 hw ha
     go_wp2
     go_ret
     exact⟨ct HC.out.symm,n,HW.out⟩
end Go.Proofs.YtplngpfpcheofaaGreatDoor
