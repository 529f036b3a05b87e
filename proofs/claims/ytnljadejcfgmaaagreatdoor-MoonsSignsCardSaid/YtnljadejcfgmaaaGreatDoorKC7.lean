import Derived.Test.YtnljadejcfgmaaaGreatDoorKC6
import Derived.OpenShut
import Derived.Deep.DeepCutAuto
namespace Go.Proofs.YtnljadejcfgmaaaGreatDoor
open Go.RowKit
set_option maxRecDepth 100000
set_option linter.unusedVariables false
set_option maxHeartbeats 8000000
theorem cell_lt {w:World} {a:Addr} {v:Value} (h:w.cell? a=some v):a.block<w.heap.size:=by
 by_cases hc:a.block<w.heap.size
 ·exact hc
 ·exfalso
  have hn:w.heap[a.block]?=none:=Array.getElem?_eq_none (by omega)
  simp[World.cell?,hn] at h
section
section
end
section
theorem c3_range (p q:Nat): -1≤c3 p q∧c3 p q≤1:=by unfold c3;split <;> (try split) <;> omega
theorem add_small {N M m:Nat} (h1:N<B32^m) (h2:M<B32^m):N+M<B32^(m+1):=by
 rw[Nat.pow_succ,B32_eq];rw[B32_eq] at h1 h2;omega
end
section
theorem c3_ge {p q:Nat}:0≤c3 p q↔q≤p:=by unfold c3;split <;> (try split) <;> omega
end
end
def SmulInv (w:World) (d N M:Nat) (o i:Value) (wr:World):Prop:=
 ∃k:Nat,k≤d∧i= .int .i64 k∧Dg wr .i64 65536 o (N*vl 65536 ((dg 65536 M).take k))∧Below w.heap.size w wr
theorem dl_mul_le {N M a b:Nat} (h1:dl 65536 N≤a) (h2:dl 65536 M≤b):dl 65536 (N*M)≤a+b:=by
 by_cases h0:M=0
 ·subst h0;rw[Nat.mul_zero,dl_zero];omega
 apply dl_le (by omega)
 rw[Nat.pow_add]
 have e1:N<65536^a:=Nat.lt_of_lt_of_le (lt_dl (by omega) N) (Nat.pow_le_pow_right (by omega) h1)
 have e2:M<65536^b:=Nat.lt_of_lt_of_le (lt_dl (by omega) M) (Nat.pow_le_pow_right (by omega) h2)
 exact Nat.lt_of_lt_of_le (Nat.mul_lt_mul_of_pos_right e1 (by omega)) (Nat.mul_le_mul_left _ (by omega))
theorem smul_any (v1 v2:Value) (N M:Nat) (w:World) (h1:Dg w .i64 65536 v1 N) (h2:Dg w .i64 65536 v2 M) (hb1:dl 65536 N≤100000) (hb2:dl 65536 M≤100000):
 Calls Tryz.prog 127 #[v1,v2] w (DhPost w (N*M)):=by
 obtain⟨ad2,cap2,rfl,r2,c2,m2,l2,n2⟩:=h2
 rw[length_dg]
 obtain⟨d,hd⟩:∃d:Nat,d=dl 65536 M:=⟨_,rfl⟩
 rw[←hd] at hb2 ⊢
 have HD:=Lib.hid hd;clear hd
 go_enter Tryz.func127,Tryz.ntmps127
 go_wp2
 go_loopw [5,11] (fun o i wr=>SmulInv w d N M o i wr) (fun _ i _=>d-(intOf i).toNat)
 case atStart=>exact⟨0,Nat.zero_le _,rfl,Dg.zero _ _ _ _ (by unfold maxLen;omega) (fun h=>by cases h),(Below.refl _ _).alloc (Nat.le_refl _) _⟩
 case round=>
  obtain⟨k,hk,rfl,ho,hbe⟩:=hrel
  by_cases hlt:k<d
  ·obtain⟨b,off,ha,_,hc⟩:=(r2.below hbe).get (by rw[length_dg,←HD.out];omega)
   have hc:=hc k (by rw[length_dg,←HD.out];exact hlt)
   have lx:lg (dg 65536 M) k<65536:=lg_lt (okb_dg (b:=65536) (by omega) M) (by omega) k
   have HT:=Lib.hid (vl_take_succ 65536 (dg 65536 M) k)
   have b1:dl 65536 (vl 65536 ((dg 65536 M).take k))≤100000:=Nat.le_trans (dl_vl_le (by omega) (okb_take (okb_dg (by omega) M) k)) (by simp;rw[length_dg,←HD.out];omega)
   have b2:dl 65536 (lg (dg 65536 M) k*65536^k)≤100001:=by
    refine Nat.le_trans (dl_le (b:=65536) (by omega) (k:=k+1) ?_) (by omega)
    rw[Nat.pow_succ,Nat.mul_comm (65536^k)]
    exact Nat.mul_lt_mul_of_pos_right lx (Nat.pow_pos (by omega))
   have B1:=Lib.hid (dl_mul_le hb1 b1)
   have B2:=Lib.hid (dl_mul_le hb1 b2)
   have h1':=h1.below hbe
   subst ha
   clear b1 b2 r2
   go_wp2_with fail
   refine(stimes_any v1 N (lg (dg 65536 M) k) k _ h1' lx (by omega) (by omega)).mono ?_
   rintro e w1 ⟨v3,rfl,d3,bb⟩
   have ho:=ho.below bb
   have hbe2:=below_to hbe bb
   clear bb h1'
   go_wp2_with fail
   rw[Nat.mul_assoc] at d3
   refine(sadd_any _ v3 _ _ _ ho d3 ⟨Nat.le_trans B1.out (by omega),Nat.le_trans B2.out (by omega)⟩).mono ?_
   rintro e w2 ⟨v4,rfl,d4,bb⟩
   have hbe3:=below_to hbe2 bb
   rw[←Nat.mul_add,←HT.out] at d4
   clear bb ho d3 hbe2
   go_wp2
   go_roundw
   case rel=>exact⟨k+1,by omega,by go_num,d4,hbe3⟩
   case measure=>simp[intOf];omega
  ·obtain rfl:k=d:=by omega
   rw[vl_take_all (by rw[length_dg,←HD.out];omega),vl_dg (by omega)] at ho
   have hV:=Lib.hid (vl_dg (b:=65536) (by omega) (N*M))
   clear r2
   go_wp2_with fail
   obtain⟨ad3,cap3,hv3,hrd,hc3,hm3,hl3,hn3⟩:=ho
   rw[hv3]
   refine(strim_any 65536 (by omega) _ _ _ (dg 65536 (N*M)) _ rfl hrd (okb_dg (by omega) _) (by omega) hc3 hn3).mono ?_
   rintro e w1 ⟨rfl,hw⟩
   have hw:=hw.symm;subst hw
   rw[hV.out]
   clear hv3
   go_wp2
   go_ret
   exact⟨_,rfl,⟨_,_,rfl,hrd,hc3,hm3,hl3,hn3⟩,hbe⟩
def ScmpInv (w:World) (d N M:Nat) (i:Value) (wr:World):Prop:=
 ∃(k n:Nat),k≤d∧i= .int .i64 ((k:Int)-1)∧(∀j,k≤j→lg (dg 65536 N) j=lg (dg 65536 M) j)∧wr=w.drewN n
theorem scmp_any (v1 v2:Value) (N M:Nat) (w:World) (h1:Dg w .i64 65536 v1 N) (h2:Dg w .i64 65536 v2 M):
 Calls Tryz.prog 172 #[v1,v2] w (Quiet w (.int .i64 (c3 N M))):=by
 obtain⟨ad1,cap1,rfl,r1,c1,m1,l1,n1⟩:=h1
 obtain⟨ad2,cap2,rfl,r2,c2,m2,l2,n2⟩:=h2
 rw[length_dg] at l1 l2 c1 c2 ⊢
 rw[length_dg]
 by_cases hlt:dl 65536 N<dl 65536 M
 ·have HC:=Lib.hid (c3_lt (lt_of_dl (b:=65536) (by omega) hlt))
  clear r1 r2
  go_enter Tryz.func172,Tryz.ntmps172
  go_wp2
  go_ret
  exact⟨ret_int HC.out.symm,0,rfl⟩
 ·by_cases hgt:dl 65536 M<dl 65536 N
  ·have HC:=Lib.hid (c3_gt (lt_of_dl (b:=65536) (by omega) hgt))
   clear r1 r2
   go_enter Tryz.func172,Tryz.ntmps172
   go_wp2
   go_ret
   exact⟨ret_int HC.out.symm,0,rfl⟩
  ·obtain⟨d,hd⟩:∃d:Nat,d=dl 65536 N:=⟨_,rfl⟩
   have hd2:d=dl 65536 M:=by omega
   rw[←hd] at l1 c1 ⊢
   rw[←hd2] at c2 ⊢
   have HD:=Lib.hid hd;have HD2:=Lib.hid hd2
   clear hd hd2 hlt hgt l2
   go_enter Tryz.func172,Tryz.ntmps172
   go_wp2
   go_loopw [5] (fun i wr=>ScmpInv w d N M i wr) (fun i _=>(intOf i+1).toNat)
   case atStart=>exact⟨d,0,Nat.le_refl _,rfl,fun j hj=>by rw[lg_out (by rw[length_dg,←HD.out];exact hj),lg_out (by rw[length_dg,←HD2.out];exact hj)],rfl⟩
   case round=>
    obtain⟨k,n,hk,rfl,ha,hw⟩:=hrel
    by_cases hp:0<k
    ·obtain⟨j,rfl⟩:∃j,k=j+1:=⟨k-1,by omega⟩
     have HA:=Lib.hid ha
     rw[show((j+1:Nat):Int)-1=(j:Int) from by omega]
     obtain⟨b,off,hx,_,hc⟩:=r1.get (by rw[length_dg,←HD.out];omega)
     obtain⟨b',off',hy,_,hc'⟩:=r2.get (by rw[length_dg,←HD2.out];omega)
     have hcx:wr.cell? ⟨b,off+j,none⟩=some (.int .i64 (lg (dg 65536 N) j:Nat)):=by rw[hw];exact hc j (by rw[length_dg,←HD.out];omega)
     have hcy:wr.cell? ⟨b',off'+j,none⟩=some (.int .i64 (lg (dg 65536 M) j:Nat)):=by rw[hw];exact hc' j (by rw[length_dg,←HD2.out];omega)
     have hjd:(j:Int)<(d:Int):=by omega
     have HW:=Lib.hid hw
     subst hx;subst hy
     clear hc hc' r1 r2 hw ha
     by_cases q1:lg (dg 65536 N) j<lg (dg 65536 M) j
     ·have HC:=Lib.hid (c3_lt (lt_digit (b:=65536) (by omega) (fun i hi=>HA.out i (by omega)) q1))
      go_upto_region 8 with fail
      go_quiet (fail)
      go_wp2
      go_ret
      exact⟨ret_int HC.out.symm,n+nq,by rw[HW.out,World.drewN_drewN]⟩
     ·by_cases q2:lg (dg 65536 M) j<lg (dg 65536 N) j
      ·have HC:=Lib.hid (c3_gt (lt_digit (b:=65536) (by omega) (fun i hi=>(HA.out i (by omega)).symm) q2))
       go_upto_region 8 with fail
       go_quiet (fail)
       go_upto_region 10 with fail
       obtain⟨wq,hq⟩:∃wq,wq=wr.drewN nq:=⟨_,rfl⟩
       have hcx':wq.cell? ⟨b,off+j,none⟩=some (.int .i64 (lg (dg 65536 N) j:Nat)):=by rw[hq];exact hcx
       have hcy':wq.cell? ⟨b',off'+j,none⟩=some (.int .i64 (lg (dg 65536 M) j:Nat)):=by rw[hq];exact hcy
       rw[←hq]
       have HQ:=Lib.hid (show ∃z,wq=w.drewN z from⟨n+nq,by rw[hq,HW.out,World.drewN_drewN]⟩)
       clear hq hcx hcy
       go_quiet (fail)
       go_wp2
       go_ret
       obtain⟨z,hz⟩:=HQ.out
       exact⟨ret_int HC.out.symm,z+nq,by rw[hz,World.drewN_drewN]⟩
      ·have he:lg (dg 65536 N) j=lg (dg 65536 M) j:=by omega
       have HE:=Lib.hid he
       clear he
       go_upto_region 8 with fail
       go_quiet (fail)
       go_upto_region 10 with fail
       obtain⟨wq,hq⟩:∃wq,wq=wr.drewN nq:=⟨_,rfl⟩
       have hcx':wq.cell? ⟨b,off+j,none⟩=some (.int .i64 (lg (dg 65536 N) j:Nat)):=by rw[hq];exact hcx
       have hcy':wq.cell? ⟨b',off'+j,none⟩=some (.int .i64 (lg (dg 65536 M) j:Nat)):=by rw[hq];exact hcy
       rw[←hq]
       have HQ:=Lib.hid (show ∃z,wq=w.drewN z from⟨n+nq,by rw[hq,HW.out,World.drewN_drewN]⟩)
       clear hq hcx hcy
       go_quiet (fail)
       go_wp2
       go_roundw
       case rel=>
        obtain⟨z,hz⟩:=HQ.out
        exact⟨j,z+nq,by omega,by go_num,fun i hi=>by
         by_cases e:i=j
         ·subst e;exact HE.out
         ·exact HA.out i (by omega),by rw[hz,World.drewN_drewN]⟩
       case measure=>simp[intOf]
    ·obtain rfl:k=0:=by omega
     have HC:=Lib.hid (c3_eq (eq_digits (b:=65536) (by omega) (fun j=>ha j (Nat.zero_le j))))
     have HW:=Lib.hid hw
     clear r1 r2 hw ha
     go_wp2
     go_ret
     exact⟨ret_int HC.out.symm,n,HW.out⟩
section
section
theorem dl_of_bits (N:Nat):(dl 2 N+31)/32=dl B32 N:=by
 by_cases h:N=0
 ·subst h;rw[dl_zero,dl_zero]
 ·have hp:=dl_pos (b:=2) (by omega) (show 0<N by omega)
  have:=dl_limbs (N:=N) (m:=(dl 2 N+31)/32) (by omega) (by omega) (by omega)
  exact this.symm
theorem mcut_any (ad:Option Addr) (n cap:Nat) (xs:List Nat) (w:World) (hn:n=xs.length) (hr:Rd w .u32 ad xs) (ho:okb B32 xs) (hl:xs.length≤1099511627776) (hcap:xs.length≤cap) (hcm:cap≤maxLen) (hnil:ad=none→cap=0):
 Calls Tryz.prog 135 #[.slice ad n cap] w (CutPost w ad cap xs):=by
 subst hn
 have hb:=Lib.hid (bits_any (.slice ad xs.length cap) (vl B32 xs) w ⟨xs,ho,rfl,ad,cap,rfl,hr,hcap,hcm,hl,hnil⟩)
 have h2:=dl2_le ho
 have hq:=dl_of_bits (vl B32 xs)
 have hd:=dl_vl_le B32_two ho
 have hfin:∀v,v= .slice ad (dl B32 (vl B32 xs)) cap→CutPost w ad cap xs (.returned v) w:=fun v hv=>⟨by rw[hv],rfl⟩
 obtain⟨d,hdd⟩:∃d,d=dl B32 (vl B32 xs):=⟨_,rfl⟩
 obtain⟨b,hbb⟩:∃b,b=dl 2 (vl B32 xs):=⟨_,rfl⟩
 rw[←hdd] at hq hd hfin
 rw[←hbb] at hq h2 hb
 have e:((b:Int)+32-1)/32=(d:Int):=by omega
 have HF:=Lib.hid hfin
 clear hdd hbb hq hfin hr ho
 cases ad with
 |none=>
  have hc0:=hnil rfl
  subst hc0
  obtain rfl:d=0:=by omega
  go_enter Tryz.func135,Tryz.ntmps135
  go_wp2_with fail
  refine hb.out.mono ?_
  rintro e w' ⟨rfl,hw⟩
  have hw:=hw.symm;subst hw
  go_wp2
  go_ret
  exact HF.out _ rfl
 |some a=>
  go_enter Tryz.func135,Tryz.ntmps135
  go_wp2_with fail
  refine hb.out.mono ?_
  rintro e w' ⟨rfl,hw⟩
  have hw:=hw.symm;subst hw
  go_wp2
  go_ret
  exact HF.out _ rfl
theorem mul_le_max {a b:Nat} (ha:a<4294967296) (hb:b<4294967296):a*b≤18446744065119617025:=
 Nat.mul_le_mul (show a≤4294967295 by omega) (show b≤4294967295 by omega)
theorem mul_step {zs:List Nat} {i j c a b Z0 T:Nat} (hlen:i+j<zs.length) (h:vl B32 zs+c*B32^(i+j)=T) (hT:Z0=c+a*b+lg zs (i+j)):
 vl B32 (zs.set (i+j) (Z0%B32))+Z0/B32*B32^(i+(j+1))=T+a*(b*B32^j)*B32^i:=by
 have h1:=vl_set B32 (xs:=zs) (i:=i+j) (Z0%B32) hlen
 have h2:=carry_arith B32 (B32^(i+j)) Z0
 rw[←Nat.pow_succ] at h2
 have h3:Z0*B32^(i+j)=c*B32^(i+j)+a*b*B32^(i+j)+lg zs (i+j)*B32^(i+j):=by rw[hT,Nat.add_mul,Nat.add_mul]
 have h4:a*(b*B32^j)*B32^i=a*b*B32^(i+j):=by
  rw[Nat.pow_add,←Nat.mul_assoc a b,Nat.mul_assoc (a*b),Nat.mul_comm (B32^j)]
 rw[h4,show i+(j+1)=i+j+1 from by omega]
 simp only [Nat.succ_eq_add_one] at h2
 omega
def MulOut (w:World) (g d e X Y:Nat) (i:Value) (wr:World):Prop:=
 ∃(k:Nat) (zs:List Nat),k≤d∧i= .int .i64 k∧zs.length=d+e∧okb B32 zs∧Row wr .u32 146 w.heap.size g (d+e) zs∧Below w.heap.size w wr∧(∀t,k+e≤t→lg zs t=0)∧vl B32 zs=vl B32 ((dg B32 X).take k)*Y
def MulIn (w:World) (g d e k a Y T:Nat) (c j:Value) (wr:World):Prop:=
 ∃(u cc:Nat) (zs:List Nat),u≤e∧j= .int .i64 u∧c= .int .u64 cc∧cc<4294967296∧zs.length=d+e∧okb B32 zs∧Row wr .u32 146 w.heap.size g (d+e) zs∧Below w.heap.size w wr∧(∀t,k+e≤t→lg zs t=0)∧
  vl B32 zs+cc*B32^(k+u)=T+a*vl B32 ((dg B32 Y).take u)*B32^k
set_option maxRecDepth 100000 in
theorem mul_any (v1 v2:Value) (X Y:Nat) (w:World) (h1:Nt w v1 X) (h2:Nt w v2 Y) (hs1:dl B32 X≤1000000) (hs2:dl B32 Y≤1000000):
 Calls Tryz.prog 120 #[v1,v2] w (DgPost w (X*Y)):=by
 obtain⟨xs,ox,vx,ad1,cap1,rfl,r1,c1,m1,l1,n1⟩:=h1
 obtain⟨ys,oy,vy,ad2,cap2,rfl,r2,c2,m2,l2,n2⟩:=h2
 have HX:=Lib.hid vx;have HY:=Lib.hid vy;clear vx vy
 have rX:=r1.dg ox
 have rY:=r2.dg oy
 obtain⟨i0,hi,hz0,hz1,hz2⟩:=info_parts Tryz.info146
 go_enter Tryz.func120,Tryz.ntmps120
 go_wp2_with fail
 refine(mcut_any ad1 _ cap1 xs _ rfl r1 ox l1 c1 m1 n1).mono ?_
 rintro e w' ⟨rfl,hw⟩
 have hw:=hw.symm;subst hw
 go_wp2_with fail
 refine(mcut_any ad2 _ cap2 ys _ rfl r2 oy l2 c2 m2 n2).mono ?_
 rintro e w' ⟨rfl,hw⟩
 have hw:=hw.symm;subst hw
 rw[HX.out] at rX ⊢
 rw[HY.out] at rY ⊢
 obtain⟨d,hd⟩:∃d,d=dl B32 X:=⟨_,rfl⟩
 obtain⟨e,he⟩:∃e,e=dl B32 Y:=⟨_,rfl⟩
 rw[←hd] at hs1 ⊢
 rw[←he] at hs2 ⊢
 have HD:=Lib.hid hd;have HE:=Lib.hid he
 clear hd he r1 r2 c1 c2 m1 m2 n1 n2 l1 l2 ox oy HX HY
 go_wp2_with (at_make;refine wpList_make_full _ rfl _ _ 29 rfl w.heap.size 146 i0 (.int .u32 0) 1 Tryz.underlying29 hi hz0 hz1 .i64 .i64 _ _ (d+e) rfl rfl (by omega) (by omega) (by rw[hz2];omega) (by unfold maxLen;omega) (Nat.le_refl _) ?_)
 intro w1 hown hgrow
 have hrow:=Row.of_made hown
 have hb1:Below w.heap.size w w1:=(Below.refl _ _).grown hgrow (Nat.le_refl _) (fun k h=>by cases h)
 clear hown hgrow
 obtain⟨g,hg⟩:∃g,g=w.heap.size:=⟨_,rfl⟩
 rw[←hg] at hrow
 rw[←hg]
 have HG:=Lib.hid hg;clear hg
 go_wp2
 go_loopw [23] (fun i wr=>MulOut w g d e X Y i wr) (fun i _=>d-(intOf i).toNat)
 case atStart=>
  have h0:∀j,lg (List.replicate (d+e) 0) j=0:=fun j=>by
   unfold lg;simp[List.getD,List.getElem?_replicate];split <;> rfl
  exact⟨0,_,Nat.zero_le _,rfl,by simp,okb_replicate B32_pos _,hrow.rebase (Nat.le_of_eq HG.out.symm),hb1,fun j _=>h0 j,by
   rw[show vl B32 (List.replicate (d+e) 0)=vl B32 [] from vl_congr B32 (fun j=>by rw[h0,lg_nil])];simp[vl]⟩
 case round=>
  obtain⟨k,zs,hk,rfl,hzl,hzo,hro,hbe,hz,hv⟩:=hrel
  have HV:=Lib.hid hv;have HZ:=Lib.hid hz;have HZL:=Lib.hid hzl;have HZO:=Lib.hid hzo
  clear hv hz hzl hzo
  by_cases hlt:k<d
  ·obtain⟨b,off,ha,hbs,hcx⟩:=(rX.below hbe).get (by rw[length_dg,←HD.out];omega)
   have hcx:=hcx k (by rw[length_dg,←HD.out];omega)
   have RX:=Lib.hid rX;have RY:=Lib.hid rY
   subst ha
   have lx:lg (dg B32 X) k<4294967296:=lg_lt (okb_dg B32_two X) B32_pos k
   obtain⟨a,haa⟩:∃a,a=lg (dg B32 X) k:=⟨_,rfl⟩
   rw[←haa] at lx hcx
   have HA:=Lib.hid haa
   clear haa rX rY hrow hb1
   obtain⟨wo,rfl⟩:∃wo:World,wo=wr:=⟨_,rfl⟩
   go_wp2
   go_loopw [8,30] (fun c j wr=>MulIn w g d e k a Y (vl B32 zs) c j wr) (fun _ j _=>e-(intOf j).toNat)
   case atStart=>exact⟨0,0,zs,Nat.zero_le _,rfl,rfl,by omega,HZL.out,HZO.out,hro,hbe,HZ.out,by simp[vl]⟩
   case round=>
    obtain⟨u,cc,zs',hu,rfl,rfl,hcc,hzl',hzo',hro',hbe',hz',hv'⟩:=hrel
    have HV':=Lib.hid hv';have HZ':=Lib.hid hz';have HZL':=Lib.hid hzl';have HZO':=Lib.hid hzo'
    clear hv' hz' hzl'
    by_cases hlu:u<e
    ·obtain⟨b2,off2,ha2,hbs2,hcy⟩:=(RY.out.below hbe').get (by rw[length_dg,←HE.out];omega)
     have hcy:=hcy u (by rw[length_dg,←HE.out];omega)
     subst ha2
     have ly:lg (dg B32 Y) u<4294967296:=lg_lt (okb_dg B32_two Y) B32_pos u
     have lz:lg zs' (k+u)<4294967296:=lg_lt hzo' B32_pos (k+u)
     have hcs:=hro'.cell (j:=k+u) (by rw[HZL'.out];omega)
     have hfr:=hro'.free (k+u)
     obtain⟨m,hm⟩:∃m,m=a*lg (dg B32 Y) u:=⟨_,rfl⟩
     have hmb:=mul_le_max lx ly
     rw[←hm] at hmb
     have em:(a:Int)*(lg (dg B32 Y) u:Int)=(m:Int):=by rw[hm];push_cast;rfl
     have HM:=Lib.hid hm
     have HRO:=Lib.hid hro';have HBE:=Lib.hid hbe'
     clear hm hzo' hro' hbe'
     go_wp2
     go_roundw
     case rel=>
      obtain⟨T,hT⟩:∃T,T=cc+a*lg (dg B32 Y) u+lg zs' (k+u):=⟨_,rfl⟩
      have hTm:T=cc+m+lg zs' (k+u):=by rw[hT,HM.out]
      have hst:=mul_step (by rw[HZL'.out];omega) HV'.out hT
      have hrow2:=HRO.out.set (k+u) (T%B32)
      rw[show((T%B32:Nat):Int)=((cc:Int)+((m:Int)+(lg zs' (k+u):Int)))%4294967296 from by
       show((T%4294967296:Nat):Int)=_
       omega] at hrow2
      refine⟨u+1,T/B32,zs'.set (k+u) (T%B32),by omega,by go_num,?_,?_,by simp;exact HZL'.out,okb_set HZO'.out (Nat.mod_lt _ B32_pos),hrow2,HBE.out.setCell (p:=⟨g,k+u,none⟩) (Nat.le_of_eq HG.out.symm) _,?_,?_⟩
      ·show _=Value.int .u64 ((T/4294967296:Nat):Int)
       congr 1
       omega
      ·show T/4294967296<4294967296
       omega
      ·intro t ht
       rw[lg_set_other _ (by omega)]
       exact HZ'.out t ht
      ·rw[hst,vl_take_succ,Nat.mul_add,Nat.add_mul,Nat.add_assoc]
     case measure=>simp[intOf];omega
    ·obtain rfl:u=e:=by omega
     have hcs:=hro'.cell (j:=k+u) (by rw[HZL'.out];omega)
     have hfr:=hro'.free (k+u)
     have HRO:=Lib.hid hro';have HBE:=Lib.hid hbe'
     clear hzo' hro' hbe'
     go_wp2
     go_roundw
     case rel=>
      have h0:=HZ'.out (k+u) (by omega)
      have hset:=vl_set B32 (xs:=zs') (i:=k+u) cc (by rw[HZL'.out];omega)
      rw[h0] at hset
      refine⟨k+1,zs'.set (k+u) cc,by omega,by go_num,by simp;exact HZL'.out,okb_set HZO'.out hcc,HRO.out.set (k+u) cc,HBE.out.setCell (p:=⟨g,k+u,none⟩) (Nat.le_of_eq HG.out.symm) _,?_,?_⟩
      ·intro t ht
       rw[lg_set_other _ (by omega)]
       exact HZ'.out t (by omega)
      ·have hv1:=HV'.out
       rw[vl_take_all (by rw[length_dg,←HE.out];omega),vl_dg B32_two,HV.out,HA.out] at hv1
       rw[vl_take_succ,Nat.add_mul]
       have h5:lg (dg B32 X) k*Y*B32^k=lg (dg B32 X) k*B32^k*Y:=by rw[Nat.mul_assoc,Nat.mul_assoc,Nat.mul_comm Y]
       rw[h5] at hv1
       omega
     case measure=>simp[intOf];omega
  ·obtain rfl:k=d:=by omega
   have hvv:vl B32 zs=X*Y:=by rw[HV.out,vl_take_all (by rw[length_dg,←HD.out];omega),vl_dg B32_two]
   have HVV:=Lib.hid hvv
   have hle:=dl_vl_le B32_two HZO.out
   rw[HVV.out,HZL.out] at hle
   have hrd:=hro.rd.dg HZO.out
   rw[HVV.out] at hrd
   have hpar:=hro.parts
   clear hvv rX rY hb1 hrow
   go_wp2_with fail
   refine(mcut_any _ _ _ zs _ HZL.out.symm hro.rd HZO.out (by rw[HZL.out];omega) (by rw[HZL.out];omega) hpar.2.2.2 (fun h=>by cases h)).mono ?_
   rintro e w2 ⟨rfl,hw⟩
   have hw:=hw.symm;subst hw
   rw[HVV.out]
   go_wp2
   go_ret
   exact⟨_,rfl,⟨_,_,rfl,hrd,by rw[length_dg];omega,hpar.2.2.2,by rw[length_dg];omega,fun h=>by cases h⟩,hbe⟩
end
section
end
end
end Go.Proofs.YtnljadejcfgmaaaGreatDoor
