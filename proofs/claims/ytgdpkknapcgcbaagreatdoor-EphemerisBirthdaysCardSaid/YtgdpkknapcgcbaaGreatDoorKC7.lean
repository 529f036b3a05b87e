import Derived.Test.YtgdpkknapcgcbaaGreatDoorKC6
import Derived.Deep.LoopGhost
import Derived.Deep.DeepCutAuto
import Derived.Deep.CutBlock
import Derived.BigRegion
import Derived.Deep.RegionHeld3
import Derived.Laws.CopyOwn
import Derived.WalkMore
import Derived.ScopeJumps
namespace Go.Proofs.YtgdpkknapcgcbaaGreatDoor
open Go.RowKit
set_option maxRecDepth 100000
set_option linter.unusedVariables false
set_option maxHeartbeats 8000000
section
section
structure jg (U V Y1 Y0 q r:Nat):Prop where
 sum:q*Y1+r=U
 low:(U*4294967296+V)/(Y1*4294967296+Y0)<=q
 high:q<=4294967297
theorem PQ (q Y1 Y0 r U:Nat) (h:q*Y1+r=U):q*(Y1*4294967296+Y0)+r*4294967296=U*4294967296+q*Y0:=by
 rw[Nat.mul_add,<-Nat.mul_assoc,<-h,Nat.add_mul];omega
theorem jg.done {U V Y1 Y0 q r:Nat} (h:jg U V Y1 Y0 q r) (hy:0<Y1) (hc:q*Y0<=4294967296*r+V):q=(U*4294967296+V)/(Y1*4294967296+Y0):=by
 have h1:=PQ q Y1 Y0 r U h.sum
 have h2:q<=(U*4294967296+V)/(Y1*4294967296+Y0):=by
  rw[Nat.le_div_iff_mul_le (by omega)]
  omega
 have:=h.low
 omega
theorem qv {U V Y1 Y0:Nat} (hU:U<Y1*4294967296+Y0) (hV:V<4294967296):(U*4294967296+V)/(Y1*4294967296+Y0)<4294967296:=by
 rw[Nat.div_lt_iff_lt_mul (by omega)]
 have:=Nat.mul_le_mul_left 4294967296 (show U+1<=Y1*4294967296+Y0 from hU)
 omega
theorem jg.down {U V Y1 Y0 q r:Nat} (h:jg U V Y1 Y0 q r) (hU:U<Y1*4294967296+Y0) (hV:V<4294967296) (hc:4294967296<=q\/4294967296*r+V<q*Y0):
 1<=q/\jg U V Y1 Y0 (q-1) (r+Y1)/\q-1<=4294967296:=by
 have ht:=qv hU hV
 have hlt:(U*4294967296+V)/(Y1*4294967296+Y0)<q:=by
  rcases hc with hc|hc
  ·exact Nat.lt_of_lt_of_le ht hc
  ·rw[Nat.div_lt_iff_lt_mul (by omega)]
   have h1:=PQ q Y1 Y0 r U h.sum
   omega
 have hh:=h.high
 have h1:=h.sum
 have hq1:1<=q:=Nat.lt_of_le_of_lt (Nat.zero_le _) hlt
 have hlow:(U*4294967296+V)/(Y1*4294967296+Y0)<=q-1:=Nat.le_sub_one_of_lt hlt
 refine⟨hq1,⟨?_,hlow,by omega⟩,by omega⟩
 obtain⟨p,rfl⟩:∃p,q=p+1:=⟨q-1,by omega⟩
 rw[Nat.add_mul] at h1
 simp only [Nat.add_sub_cancel]
 omega
theorem jg.broke {U V Y1 Y0 q r:Nat} (h:jg U V Y1 Y0 q r) (hy:0<Y1) (h0:Y0<4294967296) (hq:q<=4294967296) (hr:4294967296<=r):q=(U*4294967296+V)/(Y1*4294967296+Y0):=by
 apply h.done hy
 have h1:q*Y0<=4294967296*4294967295:=Nat.mul_le_mul hq (by omega)
 omega
theorem jg.first {U V Y1 Y0:Nat} (hU:U<Y1*4294967296+Y0) (hV:V<4294967296) (h0:Y0<4294967296) (h1:2147483648<=Y1):jg U V Y1 Y0 (U/Y1) (U%Y1):=by
 refine⟨by rw[Nat.mul_comm];exact Nat.div_add_mod U Y1,?_,?_⟩
 ·rw[Nat.le_div_iff_mul_le (by omega)]
  have h2:=Nat.div_mul_le_self (U*4294967296+V) (Y1*4294967296+Y0)
  generalize (U*4294967296+V)/(Y1*4294967296+Y0)=q at*
  rw[Nat.mul_add,<-Nat.mul_assoc] at h2
  omega
 ·have:U/Y1<4294967298:=by
   rw[Nat.div_lt_iff_lt_mul (by omega)]
   omega
  omega
theorem CL {U V1 V0 Y q1 r1:Nat} (hY:0<Y) (h1:q1=(U*4294967296+V1)/Y) (hr:r1=(U*4294967296+V1)%Y):
 (U*18446744073709551616+V1*4294967296+V0)/Y=q1*4294967296+(r1*4294967296+V0)/Y:=by
 have hd:=Nat.div_add_mod (U*4294967296+V1) Y
 rw[<-h1,<-hr] at hd
 have e:U*18446744073709551616+V1*4294967296+V0=r1*4294967296+V0+Y*(q1*4294967296):=by
  rw[<-Nat.mul_assoc]
  omega
 rw[e,Nat.add_mul_div_left _ _ hY];omega
theorem GQ {a y s:Nat}:a*2^s/(y*2^s)=a/y:=Nat.mul_div_mul_right a y (Nat.pow_pos (by omega))
set_option maxRecDepth 100000 in
theorem EX (x:Int) (w:World) (h0:4294967296<=x) (h1:x<=18446744073709551615):
 CP 270 #[.int .u64 x] w fun e w'=>e= .returned (.int .i64 (Lib.bitLen x.toNat:Nat))/\w'=w:=by
 by_cases h16:65536<=x/4294967296
 ·by_cases h8:256<=x/4294967296/65536
  ·have hix:=fun(w:World)=>Lib.run_index_len8tab (P:=Tryz.prog) w 9 .u8 (x/4294967296/65536/256) Tryz.underlying9 (by omega) (by omega)
   have HB:=Lib.hid (Lib.len8_of (x/4294967296/65536/256) (by omega) (by omega))
   have HL:=Lib.hid (Lib.bitLen_le8' (x/4294967296/65536/256) (by omega) (by omega))
   go_enter Tryz.func270,Tryz.ntmps270
   go_wp2
   go_ret
   have hb:=HB.out;have hl:=HL.out
   refine⟨dQ ?_,rfl⟩
   rw[hb]
   have hs:=Lib.bitLen_shift56 x.toNat (by omega) (by omega)
   rw[show(x/4294967296/65536/256).toNat =x.toNat/72057594037927936 from by omega] at hl ⊢
   unfold wrap64
   omega
  ·have hix:=fun(w:World)=>Lib.run_index_len8tab (P:=Tryz.prog) w 9 .u8 (x/4294967296/65536) Tryz.underlying9 (by omega) (by omega)
   have HB:=Lib.hid (Lib.len8_of (x/4294967296/65536) (by omega) (by omega))
   have HL:=Lib.hid (Lib.bitLen_le8' (x/4294967296/65536) (by omega) (by omega))
   go_enter Tryz.func270,Tryz.ntmps270
   go_wp2
   go_ret
   have hb:=HB.out;have hl:=HL.out
   refine⟨dQ ?_,rfl⟩
   rw[hb]
   have hs:=Lib.bitLen_shift48 x.toNat (by omega) (by omega)
   rw[show(x/4294967296/65536).toNat =x.toNat/281474976710656 from by omega] at hl ⊢
   unfold wrap64
   omega
 ·by_cases h8:256<=x/4294967296
  ·have hix:=fun(w:World)=>Lib.run_index_len8tab (P:=Tryz.prog) w 9 .u8 (x/4294967296/256) Tryz.underlying9 (by omega) (by omega)
   have HB:=Lib.hid (Lib.len8_of (x/4294967296/256) (by omega) (by omega))
   have HL:=Lib.hid (Lib.bitLen_le8' (x/4294967296/256) (by omega) (by omega))
   go_enter Tryz.func270,Tryz.ntmps270
   go_wp2
   go_ret
   have hb:=HB.out;have hl:=HL.out
   refine⟨dQ ?_,rfl⟩
   rw[hb]
   have hs:=Lib.bitLen_shift40 x.toNat (by omega) (by omega)
   rw[show(x/4294967296/256).toNat =x.toNat/1099511627776 from by omega] at hl ⊢
   unfold wrap64
   omega
  ·have hix:=fun(w:World)=>Lib.run_index_len8tab (P:=Tryz.prog) w 9 .u8 (x/4294967296) Tryz.underlying9 (by omega) (by omega)
   have HB:=Lib.hid (Lib.len8_of (x/4294967296) (by omega) (by omega))
   have HL:=Lib.hid (Lib.bitLen_le8' (x/4294967296) (by omega) (by omega))
   go_enter Tryz.func270,Tryz.ntmps270
   go_wp2
   go_ret
   have hb:=HB.out;have hl:=HL.out
   refine⟨dQ ?_,rfl⟩
   rw[hb]
   have hs:=Lib.bitLen_shift32 x.toNat (by omega) (by omega)
   rw[show(x/4294967296).toNat =x.toNat/4294967296 from by omega] at hl ⊢
   unfold wrap64
   omega
theorem Jv (y s:Nat) (w:World) (h0:4294967296<=y) (h1:y<18446744073709551616) (hs:s=64-dl 2 y):
 CP 235 #[.int .u64 y] w fun e w'=>e= .returned (.int .i64 s)/\w'=w:=by
 have h:=EX (y:Int) w (by omega) (by omega)
 rw[Int.toNat_natCast,xm y (Nat.lt_of_lt_of_le h1 (by decide))] at h
 have hd:dl 2 y<=64:=fT (by omega) (Nat.lt_of_lt_of_le h1 (by decide))
 obtain⟨d,hdd⟩:∃d,d=dl 2 y:=⟨_,rfl⟩
 rw[<-hdd] at h hd hs
 have H:=Lib.hid h
 have HS:=Lib.hid hs
 clear h hdd hs
 go_enter Tryz.func235,Tryz.ntmps235
 go_wp2_with fail
 refine H.out.mono ?_
 rintro e w' ⟨rfl,hw⟩
 have hw:=hw.symm;subst hw
 go_wp2
 go_ret
 exact⟨dQ (by rw[HS.out];omega),rfl⟩
end
section
def Bt (w:World) (Q:Nat) (e:Ending) (w':World):Prop:=∃(r:Int) (n:Nat),e= .returned (.tuple #[.int .u64 Q,.int .u64 r])/\w'=w.drewN n
theorem Dd {w:World} {Q:Nat} {z r:Int} (h:z=(Q:Nat)):Bt w Q (.returned (.tuple #[.int .u64 z,.int .u64 r])) w:=⟨r,0,by rw[h],rfl⟩
theorem FB (Y:Nat) (h:Y<18446744073709551616):bits BinOp.and IntKind.u64 (Y:Int) 4294967295=((Y%4294967296:Nat):Int):=by
 rw[show(4294967295:Int)=((4294967295:Nat):Int) from rfl,u64_and_nat _ _ h (by decide)]
 congr 1
 exact Nat.and_two_pow_sub_one_eq_mod Y 32
theorem DL {H L s:Nat} (hH:H%2^s=0) (hL:L<2^s) (hs:s<=31) (hH2:H<18446744073709551616):bits BinOp.or IntKind.u64 (H:Int) (L:Int)=((H+L:Nat):Int):=by
 have:(2:Nat)^s<=2^31:=Nat.pow_le_pow_right (by omega) hs
 rw[u64_or_nat _ _ hH2 (by omega),nat_join s _ _ hH hL]
structure KD (hi lo y s Y U W:Nat):Prop where
 s31:s<=31
 Yd:Y=y*2^s
 Y63:9223372036854775808<=Y
 Y64:Y<18446744073709551616
 Ud:U=hi*2^s+lo/2^(64-s)
 UY:U<Y
 Wd:W=lo*2^s%18446744073709551616
 whole:U*18446744073709551616+W=(hi*18446744073709551616+lo)*2^s
 L:lo/2^(64-s)<2^s
 H64:hi*2^s<18446744073709551616
theorem Ri {hi lo y:Nat} (h0:4294967296<=y) (h1:y<18446744073709551616) (hh:hi<y) (hl:lo<18446744073709551616):
 KD hi lo y (64-dl 2 y) (y*2^(64-dl 2 y)) (hi*2^(64-dl 2 y)+lo/2^(64-(64-dl 2 y))) (lo*2^(64-dl 2 y)%18446744073709551616):=by
 have hd:dl 2 y<=64:=fT (by omega) (Nat.lt_of_lt_of_le h1 (by decide))
 have hd2:33<=dl 2 y:=by
  by_cases h:dl 2 y<=32
  ·have:=jx (b:=2) (by omega) y
   have h3:(2:Nat)^dl 2 y<=2^32:=Nat.pow_le_pow_right (by omega) h
   have h4:(2:Nat)^32=4294967296:=by decide
   omega
  ·omega
 have e1:=jx (b:=2) (by omega) y
 have e2:=rG (b:=2) (by omega) (show 0<y by omega)
 obtain⟨s,hs⟩:∃s,s=64-dl 2 y:=⟨_,rfl⟩
 have hdd:dl 2 y=64-s:=by omega
 rw[hdd] at e1 e2
 rw[<-hs]
 have p1:(2:Nat)^(64-s)*2^s=18446744073709551616:=by rw[<-Nat.pow_add,show 64-s+s=64 from by omega]
 have p2:(2:Nat)^(64-s-1)*2^s=9223372036854775808:=by rw[<-Nat.pow_add,show 64-s-1+s=63 from by omega]
 have hsp:0<2^s:=Nat.pow_pos (by omega)
 have f1:y*2^s<18446744073709551616:=by rw[<-p1];exact Nat.mul_lt_mul_of_pos_right e1 hsp
 have f2:9223372036854775808<=y*2^s:=by rw[<-p2];exact Nat.mul_le_mul_right _ e2
 have f3:lo/2^(64-s)<2^s:=by
  rw[Nat.div_lt_iff_lt_mul (Nat.pow_pos (by omega)),Nat.mul_comm,p1];exact hl
 have f4:hi*2^s+2^s<=y*2^s:=by
  have:=Nat.mul_le_mul_right (2^s) (show hi+1<=y from hh)
  rw[Nat.add_mul,Nat.one_mul] at this
  exact this
 refine⟨by omega,rfl,f2,f1,rfl,by omega,rfl,?_,f3,by omega⟩
 have g1:=Nat.div_add_mod (lo*2^s) 18446744073709551616
 have g2:lo*2^s/18446744073709551616=lo/2^(64-s):=by rw[<-p1,Nat.mul_div_mul_right _ _ hsp]
 rw[g2] at g1
 rw[Nat.add_mul,Nat.add_mul,Nat.mul_right_comm hi]
 omega
theorem Hm {U V1 V0 W Y Z:Nat} (hW:W=V1*4294967296+V0) (h:(U*18446744073709551616+V1*4294967296+V0)/Y=Z):
 (U*18446744073709551616+W)/Y=Z:=by
 subst hW
 rw[<-Nat.add_assoc]
 exact h
set_option maxRecDepth 100000 in
theorem FN (hi lo y:Nat) (w:World) (h0:4294967296<=y) (h1:y<18446744073709551616) (hh:hi<y) (hl:lo<18446744073709551616):
 CP 187 #[.int .u64 hi,.int .u64 lo,.int .u64 y] w (Bt w ((hi*18446744073709551616+lo)/y)):=by
 by_cases hz:hi=0
 ·subst hz
  obtain⟨q,hq⟩:∃q,q=lo/y:=⟨_,rfl⟩
  obtain⟨r,hr⟩:∃r,r=lo%y:=⟨_,rfl⟩
  have HQ:=Lib.hid (show q=(0*18446744073709551616+lo)/y from by rw[hq];simp)
  have eq1:(lo:Int)/(y:Int)=(q:Int):=by rw[hq];exact(Int.natCast_ediv lo y).symm
  have eq2:(lo:Int)%(y:Int)=(r:Int):=by rw[hr];exact(Int.natCast_emod lo y).symm
  have hql:q<=lo:=by rw[hq];exact Nat.div_le_self _ _
  have hrl:r<y:=by rw[hr];exact Nat.mod_lt _ (by omega)
  have hy0:((y:Int) == 0)=false:=by simp;omega
  clear hq hr
  rw[<-HQ.out]
  clear HQ
  go_enter Tryz.func187,Tryz.ntmps187
  go_wp2
  go_quiet (fail)
  go_wp2
  go_ret2
  exact⟨r,nq,by rw[<-eq2];rfl,rfl⟩
 ·obtain⟨s,Y,U,W,hs,hmv⟩:∃s Y U W,s=64-dl 2 y/\KD hi lo y s Y U W:=⟨_,_,_,_,rfl,Ri h0 h1 hh hl⟩
  have HMV:=Lib.hid hmv
  obtain⟨s31,Yd,Y63,Y64,Ud,UY,Wd,whole,hL,H64⟩:=hmv
  have hy0:((y:Int) == 0)=false:=by simp;omega
  have hi0:((hi:Int) == 0)=false:=by simp;omega
  have LZ:=Lib.hid (fun w=>Jv y s w h0 h1 hs)
  obtain⟨H,hH⟩:∃H,H=hi*2^s:=⟨_,rfl⟩
  obtain⟨L,hLd⟩:∃L,L=lo/2^(64-s):=⟨_,rfl⟩
  rw[<-hH,<-hLd] at Ud
  rw[<-hH] at H64
  rw[<-hLd] at hL
  have or1:=DL (H:=H) (L:=L) (s:=s) (by rw[hH];exact Nat.mul_mod_left _ _) hL s31 H64
  rw[<-Ud,hLd,<-zV] at or1
  have eY:IntKind.u64.wrap ((y:Int)*2^s)=(Y:Int):=by
   rw[show(y:Int)*2^s=((y*2^s:Nat):Int) from by push_cast;rfl,<-Yd]
   exact tb (by omega) (by omega)
  have eH:IntKind.u64.wrap ((hi:Int)*2^s)=(H:Int):=by
   rw[show(hi:Int)*2^s=((hi*2^s:Nat):Int) from by push_cast;rfl,<-hH]
   exact tb (by omega) (by omega)
  have eW:IntKind.u64.wrap ((lo:Int)*2^s)=(W:Int):=by
   rw[show(lo:Int)*2^s=((lo*2^s:Nat):Int) from by push_cast;rfl,IntKind.wrap_u64,Wd]
   omega
  have W64:W<18446744073709551616:=by rw[Wd];exact Nat.mod_lt _ (by decide)
  obtain⟨Y1,hY1⟩:∃Y1,Y1=Y/4294967296:=⟨_,rfl⟩
  obtain⟨Y0,hY0⟩:∃Y0,Y0=Y%4294967296:=⟨_,rfl⟩
  obtain⟨V1,hV1⟩:∃V1,V1=W/4294967296:=⟨_,rfl⟩
  obtain⟨V0,hV0⟩:∃V0,V0=W%4294967296:=⟨_,rfl⟩
  have eY1:(Y:Int)/4294967296=(Y1:Int):=by omega
  have eV1:(W:Int)/4294967296=(V1:Int):=by omega
  have eY0:=FB Y Y64
  have eV0:=FB W W64
  rw[<-hY0] at eY0
  rw[<-hV0] at eV0
  have y1l:2147483648<=Y1:=by omega
  have y1h:Y1<4294967296:=by omega
  have y0h:Y0<4294967296:=by omega
  have v1h:V1<4294967296:=by omega
  have v0h:V0<4294967296:=by omega
  have u64h:U<18446744073709551616:=by omega
  have YD:=Lib.hid (show Y=Y1*4294967296+Y0 from by omega)
  have WD:=Lib.hid (show W=V1*4294967296+V0 from by omega)
  have hUY:U<Y1*4294967296+Y0:=by omega
  have LD:=Lib.hid hLd
  clear Yd Ud Wd whole hL hH hLd hY1 hY0 hV1 hV0 hs
  go_enter Tryz.func187,Tryz.ntmps187
  go_wp2_with fail
  refine(LZ.out _).mono ?_
  rintro e w' ⟨rfl,hw⟩
  have hw:=hw.symm;subst hw
  clear LZ
  have G1:=Lib.hid (jg.first hUY v1h y0h y1l)
  obtain⟨q0,hq0⟩:∃q0,q0=U/Y1:=⟨_,rfl⟩
  obtain⟨r0,hr0⟩:∃r0,r0=U%Y1:=⟨_,rfl⟩
  rw[<-hq0,<-hr0] at G1
  have eq0:(U:Int)/(Y1:Int)=(q0:Int):=by rw[hq0];exact(Int.natCast_ediv U Y1).symm
  have hq0h:=G1.out.high
  obtain⟨A,hA⟩:∃A,A=q0*Y1:=⟨_,rfl⟩
  have hAU:A+r0=U:=by rw[hA];exact G1.out.sum
  have eA:(q0:Int)*(Y1:Int)=(A:Int):=by rw[hA];push_cast;rfl
  have hr0h:r0<4294967296:=by rw[hr0];exact Nat.lt_of_lt_of_le (Nat.mod_lt _ (by omega)) (by omega)
  have eAr:(U:Int)-(A:Int)=(r0:Int):=by omega
  clear hq0 hr0 hA hAU
  go_upto_block 0 with fail
  obtain⟨Q1,hQ1⟩:∃Q1,Q1=(U*4294967296+V1)/(Y1*4294967296+Y0):=⟨_,rfl⟩
  have HQ1:=Lib.hid hQ1
  have hQ1h:Q1<4294967296:=by rw[hQ1];exact qv hUY v1h
  clear hQ1
  go_cut [15,16] (fun s15 s16 wx=>s15= .int .u64 Q1/\w=wx)
  case first=>
   go_wp2_with fail
   clear eq0 eA eAr
   go_loop [15,16] (fun s15 s16=>∃q r:Nat,s15= .int .u64 q/\s16= .int .u64 r/\Hid (jg U V1 Y1 Y0 q r)/\r<4294967296) (fun s15 _=>(intOf s15).toNat)
   case atStart=>exact⟨q0,r0,rfl,rfl,G1,hr0h⟩
   case round=>
    obtain⟨q,r,rfl,rfl,hG,hr⟩:=hrel
    have hqh:=hG.out.high
    have hqi:(q:Int)<=4294967297:=by omega
    have hri:(r:Int)<4294967296:=by omega
    clear G1 hq0h hr0h
    by_cases c1:4294967296<=q
    ·obtain⟨d1,d2,d3⟩:=hG.out.down hUY v1h (Or.inl c1)
     have D2:=Lib.hid d2
     clear d2 hG
     have c1i:(4294967296:Int)<=(q:Int):=by omega
     by_cases hb:r+Y1<4294967296
     ·have HBB:=Lib.hid hb
      have hbi:decide ((4294967296:Int)<=(r:Int)+(Y1:Int))=false:=decide_eq_false (by omega)
      clear c1 hqh d1 d3 hb hr
      go_wp2
      go_round
      case rel=>exact⟨q-1,r+Y1,by go_num,by go_num,D2,HBB.out⟩
      case measure=>simp[intOf];omega
     ·have HQ:=Lib.hid (D2.out.broke (by omega) y0h d3 (by omega))
      have hbi:(4294967296:Int)<=(r:Int)+(Y1:Int):=by omega
      clear D2 c1 hqh d1 d3 hb hr
      go_wp2
      go_meet
      rw[HQ1.out,<-HQ.out]
      exact⟨by go_num,rfl⟩
    ·obtain⟨P,hP⟩:∃P,P=q*Y0:=⟨_,rfl⟩
     have hPb:P<=18446744065119617025:=by rw[hP];exact Nat.mul_le_mul (show q<=4294967295 by omega) (show Y0<=4294967295 by omega)
     have eP:(q:Int)*(Y0:Int)=(P:Int):=by rw[hP];push_cast;rfl
     by_cases c2:4294967296*r+V1<P
     ·obtain⟨d1,d2,d3⟩:=hG.out.down hUY v1h (Or.inr (by rw[<-hP];exact c2))
      have D2:=Lib.hid d2
      have c1i:decide ((4294967296:Int)<=(q:Int))=false:=decide_eq_false (by omega)
      have c2i:4294967296*(r:Int)+(V1:Int)<(P:Int):=by omega
      have d1i:(1:Int)<=(q:Int):=by omega
      clear d2 hG hP
      by_cases hb:r+Y1<4294967296
      ·have HBB:=Lib.hid hb
       have hbi:decide ((4294967296:Int)<=(r:Int)+(Y1:Int))=false:=decide_eq_false (by omega)
       clear c1 c2 hqh d1 d3 hb hr
       go_wp2
       go_round
       case rel=>exact⟨q-1,r+Y1,by go_num,by go_num,D2,HBB.out⟩
       case measure=>simp[intOf];omega
      ·have HQ:=Lib.hid (D2.out.broke (by omega) y0h d3 (by omega))
       have hbi:(4294967296:Int)<=(r:Int)+(Y1:Int):=by omega
       clear D2 c1 c2 hqh d1 d3 hb hr
       go_wp2
       go_meet
       rw[HQ1.out,<-HQ.out]
       exact⟨by go_num,rfl⟩
     ·have HQ:=Lib.hid (hG.out.done (by omega) (by rw[<-hP];omega))
      have c1i:decide ((4294967296:Int)<=(q:Int))=false:=decide_eq_false (by omega)
      have c2i:decide (4294967296*(r:Int)+(V1:Int)<(P:Int))=false:=decide_eq_false (by omega)
      clear hG hP c1 c2 hqh hr
      go_wp2
      go_meet
      rw[HQ1.out,<-HQ.out]
      exact⟨rfl,rfl⟩
  case rest=>
   obtain⟨rfl,rfl⟩:=hcut
   clear G1 hq0h hr0h eq0 eA eAr
   obtain⟨R1,hR1⟩:∃R1,R1=(U*4294967296+V1)%Y:=⟨_,rfl⟩
   obtain⟨P1,hP1⟩:∃P1,P1=Q1*Y:=⟨_,rfl⟩
   have hdm:P1+R1=U*4294967296+V1:=by
    rw[hP1,hR1,HQ1.out,<-YD.out,Nat.mul_comm];exact Nat.div_add_mod _ _
   have hR1Y:R1<Y:=by rw[hR1];exact Nat.mod_lt _ (by omega)
   have eP1:(Q1:Int)*(Y:Int)=(P1:Int):=by rw[hP1];push_cast;rfl
   have eR1:IntKind.u64.wrap (IntKind.u64.wrap (IntKind.u64.wrap ((U:Int)*4294967296)+(V1:Int))-IntKind.u64.wrap ((Q1:Int)*(Y:Int)))=(R1:Int):=by
    rw[eP1]
    simp only [IntKind.wrap_u64]
    omega
   have HR1:=Lib.hid hR1
   have hRY:R1<Y1*4294967296+Y0:=by rw[<-YD.out];exact hR1Y
   have G2:=Lib.hid (jg.first hRY v0h y0h y1l)
   obtain⟨q2,hq2⟩:∃q2,q2=R1/Y1:=⟨_,rfl⟩
   obtain⟨r2,hr2⟩:∃r2,r2=R1%Y1:=⟨_,rfl⟩
   rw[<-hq2,<-hr2] at G2
   have eq2:(R1:Int)/(Y1:Int)=(q2:Int):=by rw[hq2];exact(Int.natCast_ediv R1 Y1).symm
   have hq2h:=G2.out.high
   obtain⟨A,hA⟩:∃A,A=q2*Y1:=⟨_,rfl⟩
   have hAU:A+r2=R1:=by rw[hA];exact G2.out.sum
   have eA:(q2:Int)*(Y1:Int)=(A:Int):=by rw[hA];push_cast;rfl
   have hr2h:r2<4294967296:=by rw[hr2];exact Nat.lt_of_lt_of_le (Nat.mod_lt _ (by omega)) (by omega)
   have eAr:(R1:Int)-(A:Int)=(r2:Int):=by omega
   have r64:R1<18446744073709551616:=by omega
   clear hq2 hr2 hA hAU hR1 hP1 hdm eP1
   go_upto_block 2 with fail
   obtain⟨Q0,hQ0⟩:∃Q0,Q0=(R1*4294967296+V0)/(Y1*4294967296+Y0):=⟨_,rfl⟩
   have HQ0:=Lib.hid hQ0
   have hQ0h:Q0<4294967296:=by rw[hQ0];exact qv hRY v0h
   clear hQ0
   go_cut [18,16] (fun s18 s16 wx=>s18= .int .u64 Q0/\w=wx)
   case first=>
    go_wp2_with fail
    clear eq2 eA eAr eR1
    go_loop [18,16] (fun s15 s16=>∃q r:Nat,s15= .int .u64 q/\s16= .int .u64 r/\Hid (jg R1 V0 Y1 Y0 q r)/\r<4294967296) (fun s15 _=>(intOf s15).toNat)
    case atStart=>exact⟨q2,r2,rfl,rfl,G2,hr2h⟩
    case round=>
     obtain⟨q,r,rfl,rfl,hG,hr⟩:=hrel
     have hqh:=hG.out.high
     have hqi:(q:Int)<=4294967297:=by omega
     have hri:(r:Int)<4294967296:=by omega
     clear G2 hq2h hr2h
     by_cases c1:4294967296<=q
     ·obtain⟨d1,d2,d3⟩:=hG.out.down hRY v0h (Or.inl c1)
      have D2:=Lib.hid d2
      clear d2 hG
      have c1i:(4294967296:Int)<=(q:Int):=by omega
      by_cases hb:r+Y1<4294967296
      ·have HBB:=Lib.hid hb
       have hbi:decide ((4294967296:Int)<=(r:Int)+(Y1:Int))=false:=decide_eq_false (by omega)
       clear c1 hqh d1 d3 hb hr
       go_wp2
       go_round
       case rel=>exact⟨q-1,r+Y1,by go_num,by go_num,D2,HBB.out⟩
       case measure=>simp[intOf];omega
      ·have HQ:=Lib.hid (D2.out.broke (by omega) y0h d3 (by omega))
       have hbi:(4294967296:Int)<=(r:Int)+(Y1:Int):=by omega
       clear D2 c1 hqh d1 d3 hb hr
       go_wp2
       go_meet
       rw[HQ0.out,<-HQ.out]
       exact⟨by go_num,rfl⟩
     ·obtain⟨P,hP⟩:∃P,P=q*Y0:=⟨_,rfl⟩
      have hPb:P<=18446744065119617025:=by rw[hP];exact Nat.mul_le_mul (show q<=4294967295 by omega) (show Y0<=4294967295 by omega)
      have eP:(q:Int)*(Y0:Int)=(P:Int):=by rw[hP];push_cast;rfl
      by_cases c2:4294967296*r+V0<P
      ·obtain⟨d1,d2,d3⟩:=hG.out.down hRY v0h (Or.inr (by rw[<-hP];exact c2))
       have D2:=Lib.hid d2
       have c1i:decide ((4294967296:Int)<=(q:Int))=false:=decide_eq_false (by omega)
       have c2i:4294967296*(r:Int)+(V0:Int)<(P:Int):=by omega
       have d1i:(1:Int)<=(q:Int):=by omega
       clear d2 hG hP
       by_cases hb:r+Y1<4294967296
       ·have HBB:=Lib.hid hb
        have hbi:decide ((4294967296:Int)<=(r:Int)+(Y1:Int))=false:=decide_eq_false (by omega)
        clear c1 c2 hqh d1 d3 hb hr
        go_wp2
        go_round
        case rel=>exact⟨q-1,r+Y1,by go_num,by go_num,D2,HBB.out⟩
        case measure=>simp[intOf];omega
       ·have HQ:=Lib.hid (D2.out.broke (by omega) y0h d3 (by omega))
        have hbi:(4294967296:Int)<=(r:Int)+(Y1:Int):=by omega
        clear D2 c1 c2 hqh d1 d3 hb hr
        go_wp2
        go_meet
        rw[HQ0.out,<-HQ.out]
        exact⟨by go_num,rfl⟩
      ·have HQ:=Lib.hid (hG.out.done (by omega) (by rw[<-hP];omega))
       have c1i:decide ((4294967296:Int)<=(q:Int))=false:=decide_eq_false (by omega)
       have c2i:decide (4294967296*(r:Int)+(V0:Int)<(P:Int))=false:=decide_eq_false (by omega)
       clear hG hP c1 c2 hqh hr
       go_wp2
       go_meet
       rw[HQ0.out,<-HQ.out]
       exact⟨rfl,rfl⟩
   case rest=>
    obtain⟨rfl,rfl⟩:=hcut
    clear eq2 eA eAr eR1 G2
    go_wp2_with fail
    go_ret2
    have hm:=HMV.out
    have hw:=hm.whole
    have h2:=CL (V0:=V0) (show 0<Y by omega) (show Q1=(U*4294967296+V1)/Y from by rw[HQ1.out,<-YD.out]) HR1.out
    have h3:(hi*18446744073709551616+lo)/y=Q1*4294967296+Q0:=by
     rw[<-GQ (s:=s),<-hw,<-hm.Yd,HQ0.out,<-YD.out]
     exact Hm WD.out h2
    exact Dd (by rw[h3];omega)
end
section
theorem oi (ad:Option Addr) (n cap:Nat) (xs:List Nat) (i:Nat) (w:World) (hn:n=xs.length) (hr:Rd w .u32 ad xs) (ho:okb B32 xs) (hl:xs.length<=1099511627777) (hi:i<=2199023255554):
 CP 188 #[.slice ad n cap,.int .i64 i] w fun e w'=>e= .returned (.int .u64 (lg xs i:Nat))/\w'=w:=by
 subst hn
 by_cases h:i<xs.length
 ·obtain⟨b,off,rfl,hb,hc⟩:=hr.get (by omega)
  have hc:=hc i h
  have lx:=di ho bi i
  rw[dw] at lx
  clear hr
  go_enter Tryz.func188,Tryz.ntmps188
  go_wp2
  go_ret
  exact⟨rfl,rfl⟩
 ·go_enter Tryz.func188,Tryz.ntmps188
  go_wp2
  go_ret
  exact⟨by rw[eS (by omega)];rfl,rfl⟩
theorem Nz (ad:Option Addr) (n cap:Nat) (i:Int) (w:World) (hi:i<0):
 CP 188 #[.slice ad n cap,.int .i64 i] w fun e w'=>e= .returned (.int .u64 (0:Nat))/\w'=w:=by
 go_enter Tryz.func188,Tryz.ntmps188
 go_wp2
 go_ret
 exact⟨rfl,rfl⟩
theorem MU {a b:Int} (h:a=b):Ending.returned (.int .u64 a)= .returned (.int .u64 b):=by rw[h]
def pr (xs:List Nat) (i:Nat):Nat:=lg xs i*4294967296+(if i=0 then 0 else lg xs (i-1))
theorem tM (ad:Option Addr) (n cap:Nat) (xs:List Nat) (i:Nat) (w:World) (hn:n=xs.length) (hr:Rd w .u32 ad xs) (ho:okb B32 xs) (hl:xs.length<=1099511627777) (hi:i<=2199023255554):
 CP 186 #[.slice ad n cap,.int .i64 i] w fun e w'=>e= .returned (.int .u64 (pr xs i:Nat))/\w'=w:=by
 subst hn
 have lx:=di ho bi i
 have ly:=di ho bi (i-1)
 rw[dw] at lx ly
 have HR:=Lib.hid hr;clear hr
 by_cases h0:i=0
 ·subst h0
  have hp:=Lib.hid (show pr xs 0=lg xs 0*4294967296+0 from rfl)
  have oo:bits BinOp.or IntKind.u64 ((lg xs 0:Int)*4294967296) 0=((lg xs 0*4294967296+0:Nat):Int):=ph _ 0 lx (by omega)
  have OO:=Lib.hid oo;clear oo
  go_enter Tryz.func186,Tryz.ntmps186
  go_wp2_with fail
  refine(oi ad _ cap xs 0 w rfl HR.out ho hl (by omega)).mono ?_
  rintro e w' ⟨rfl,hw⟩
  have hw:=hw.symm;subst hw
  have oo:=OO.out
  go_wp2_with fail
  refine(Nz ad _ cap _ w (by omega)).mono ?_
  rintro e w' ⟨rfl,hw⟩
  have hw:=hw.symm;subst hw
  go_wp2
  go_ret
  rw[hp.out]
  exact⟨MU (by omega),rfl⟩
 ·have hp:=Lib.hid (show pr xs i=lg xs i*4294967296+lg xs (i-1) from by unfold pr;rw[if_neg h0])
  have oo:=ph _ _ lx ly
  have OO:=Lib.hid oo;clear oo
  go_enter Tryz.func186,Tryz.ntmps186
  go_wp2_with fail
  refine(oi ad _ cap xs i w rfl HR.out ho hl (by omega)).mono ?_
  rintro e w' ⟨rfl,hw⟩
  have hw:=hw.symm;subst hw
  have oo:=OO.out
  go_wp2_with fail
  rw[show(i:Int)-1=((i-1:Nat):Int) from by omega]
  refine(oi ad _ cap xs (i-1) w rfl HR.out ho hl (by omega)).mono ?_
  rintro e w' ⟨rfl,hw⟩
  have hw:=hw.symm;subst hw
  go_wp2
  go_ret
  rw[hp.out]
  exact⟨rfl,rfl⟩
end
section
structure du (g:Nat) (w w':World):Prop where
 os:w'.os=w.os
 tape:w'.tape=w.tape
 output:w'.output=w.output
 size:w'.heap.size=w.heap.size
 block:∀k,k≠g->w'.heap[k]?=w.heap[k]?
theorem du.refl (g:Nat) (w:World):du g w w:=⟨rfl,rfl,rfl,rfl,fun _ _=>rfl⟩
theorem du.trans {g:Nat} {a b c:World} (h:du g a b) (k:du g b c):du g a c:=
 ⟨k.os.trans h.os,k.tape.trans h.tape,k.output.trans h.output,k.size.trans h.size,fun i hi=>(k.block i hi).trans (h.block i hi)⟩
theorem du.drew {g:Nat} {a w:World} (h:du g a w):du g a w.drew:=⟨h.os,h.tape,h.output,h.size,h.block⟩
theorem du.setCell {g:Nat} {a w:World} (h:du g a w) {p:Addr} (hp:p.block=g) (u:Value):du g a (w.setCell p u):=
 h.trans ⟨rfl,rfl,rfl,by simp[World.setCell],fun k hk=>Below.heap_setCell _ _ _ _ (by omega)⟩
theorem du.below {g B:Nat} {w w':World} (h:du g w w') (hB:B<=g):Below B w w':=
 ⟨h.os,h.tape,h.output,Nat.le_of_eq h.size.symm,fun k hk=>h.block k (by omega)⟩
def nz (ad:Option Addr) (g:Nat):Prop:=∀b off,ad=some ⟨b,off,none⟩->b≠g
theorem du.rd {g:Nat} {w w':World} {k:IntKind} {ad:Option Addr} {xs:List Nat} (h:du g w w') (r:Rd w k ad xs) (ha:nz ad g):Rd w' k ad xs:=by
 refine⟨fun i hi=>?_⟩
 obtain⟨b,off,e,hlt,hc⟩:=r.cell i hi
 refine⟨b,off,e,by rw[h.size];exact hlt,?_⟩
 rw[<-hc]
 unfold World.cell?
 rw[h.block b (ha b off e)]
theorem Fe {zs:List Nat} {i y c q v bor T P Q:Nat} (hlen:i<zs.length) (h:vl B32 zs+Q=P+c*B32^i) (hT:T=c+q*y) (hv:v+T%B32=lg zs i+bor*B32):
 vl B32 (zs.set i v)+(Q+q*y*B32^i)=P+(T/B32+bor)*B32^(i+1):=by
 have h1:=ow B32 (xs:=zs) (i:=i) v hlen
 have h2:=jt B32 (B32^i) T
 rw[show B32^i*B32=B32^(i+1) from(Nat.pow_succ ..).symm] at h2
 have h3:(v+T%B32)*B32^i=(lg zs i+bor*B32)*B32^i:=by rw[hv]
 rw[Nat.add_mul,Nat.add_mul] at h3
 have h4:bor*B32*B32^i=bor*B32^(i+1):=by rw[Nat.pow_succ,Nat.mul_assoc,Nat.mul_comm B32]
 have h5:T*B32^i=c*B32^i+q*y*B32^i:=by rw[hT,Nat.add_mul]
 rw[Nat.add_mul]
 omega
def LY (w:World) (base g cap:Nat) (xs:List Nat) (j:Nat) (ys:List Nat) (q:Nat) (c i:Value) (wr:World):Prop:=
 ∃(k cc:Nat) (zs:List Nat),k<=ys.length/\i= .int .i64 k/\c= .int .u64 cc/\cc<4294967296/\zs.length=xs.length/\okb B32 zs/\Row wr .u32 167 base g cap zs/\du g w wr/\
  (∀t,t<j\/j+ys.length<=t->lg zs t=lg xs t)/\vl B32 zs+q*vl B32 (ys.take k)*B32^j=vl B32 xs+cc*B32^(j+k)
def JJ (w:World) (base g cap:Nat) (xs:List Nat) (j:Nat) (ys:List Nat) (q:Nat) (e:Ending) (w':World):Prop:=
 ∃(cc:Nat) (zs:List Nat),e= .returned (.bool (decide (lg xs (j+ys.length)<cc)))/\cc<4294967296/\zs.length=xs.length/\okb B32 zs/\Row w' .u32 167 base g cap zs/\du g w w'/\
  (∀t,t<j\/j+ys.length<=t->lg zs t=lg xs t)/\vl B32 zs+q*vl B32 ys*B32^j=vl B32 xs+cc*B32^(j+ys.length)
set_option maxRecDepth 100000 in
theorem Jh (base g cap cp2 cp1 j n1 n q:Nat) (ad:Option Addr) (xs ys:List Nat) (w:World) (hr:Row w .u32 167 base g cap xs) (ho:okb B32 xs) (ry:Rd w .u32 ad ys) (oy:okb B32 ys) (ha:nz ad g)
 (hn1:n1=xs.length-j) (hn:n=ys.length) (hj:j+ys.length<=xs.length) (hq:q<4294967296) (hl:xs.length<=1099511627777):
 CP 189 #[.slice (some ⟨g,j,none⟩) n1 cp1,.slice ad n cp2,.int .u64 q] w (JJ w base g cap xs j ys q):=by
 have HN:=Lib.hid hn;have HN1:=Lib.hid hn1;have HO:=Lib.hid ho;have HR:=Lib.hid hr;have RY:=Lib.hid ry;have OY:=Lib.hid oy;have HA:=Lib.hid ha
 have hnj:n<=n1:=by omega
 have hn1b:n1<=1099511627777:=by omega
 have hjb:j<=1099511627777:=by omega
 clear hn hn1 ho hr ry oy ha
 go_enter Tryz.func189,Tryz.ntmps189
 go_wp2
 go_loopw [7,13] (fun c i wr=>LY w base g cap xs j ys q c i wr) (fun _ i _=>n-(intOf i).toNat)
 case atStart=>exact⟨0,0,xs,Nat.zero_le _,rfl,rfl,by omega,rfl,HO.out,HR.out,du.refl _ _,fun _ _=>rfl,by simp[vl]⟩
 case round=>
  obtain⟨k,cc,zs,hk,rfl,rfl,hcc,hzl,hzo,hro,hon,hsame,hv⟩:=hrel
  have HV:=Lib.hid hv;have HZ:=Lib.hid hsame;have HZL:=Lib.hid hzl;have HZO:=Lib.hid hzo;have HON:=Lib.hid hon
  clear hv hsame hzl
  by_cases hlt:k<n
  ·obtain⟨b,off,ha,hbs,hcy⟩:=(hon.rd RY.out HA.out).get (by have:=HN.out;omega)
   have hcy:=hcy k (by have:=HN.out;omega)
   subst ha
   have ly:lg ys k<4294967296:=di OY.out bi k
   have lz:lg zs (j+k)<4294967296:=di hzo bi (j+k)
   have hcs:=hro.cell (j:=j+k) (by rw[HZL.out];have:=HN.out;omega)
   have hfr:=hro.free (j+k)
   obtain⟨m,hm⟩:∃m,m=q*lg ys k:=⟨_,rfl⟩
   have hmb:=uv hq ly
   rw[<-hm] at hmb
   have em:(q:Int)*(lg ys k:Int)=(m:Int):=by rw[hm];push_cast;rfl
   have HM:=Lib.hid hm
   obtain⟨T,hT⟩:∃T,T=cc+m:=⟨_,rfl⟩
   obtain⟨r,hr⟩:∃r,r=(lg zs (j+k)+8589934592-T%4294967296-0)%4294967296:=⟨_,rfl⟩
   obtain⟨bo,hbo⟩:∃bo,bo=(if lg zs (j+k)<T%4294967296+0 then 1 else 0):=⟨_,rfl⟩
   have hrb:r<B32:=by rw[hr,dw];exact Nat.mod_lt _ (by decide)
   have hbb:bo<=1:=by rw[hbo];split <;> decide
   have hsum:Hid (r+T%B32=lg zs (j+k)+bo*B32):=by
    unfold Hid;rw[hr,hbo,dw];split <;> omega
   have hc':T/4294967296+bo<4294967296:=by rw[hbo];split <;> omega
   have hsub:=wI (lg zs (j+k)) (T%4294967296) 0 wr lz (by omega) (by omega)
   unfold qq at hsub
   rw[<-hr,<-hbo,show((T%4294967296:Nat):Int)=((cc:Int)+(m:Int))%4294967296 from by omega] at hsub
   have HSUB:=Lib.hid hsub
   have HT:=Lib.hid hT
   have HC:=Lib.hid hc'
   have hTi:((cc:Int)+(m:Int))/4294967296+(bo:Int)=((T/4294967296+bo:Nat):Int):=by omega
   have HTI:=Lib.hid hTi
   have HRO:=Lib.hid hro
   clear hm hsub hr hbo hT hc' hzo hro hon hTi
   go_wp2_with fail
   refine(HSUB.out).mono ?_
   rintro e w' ⟨rfl,hw⟩
   have hw:=hw.symm;subst hw
   go_wp2
   go_roundw
   case rel=>
    refine⟨k+1,T/4294967296+bo,zs.set (j+k) r,by have:=HN.out;omega,by go_num,?_,HC.out,by rw[List.length_set];exact HZL.out,iy HZO.out hrb,HRO.out.set (j+k) r,HON.out.setCell (p:=⟨g,j+k,none⟩) rfl _,?_,?_⟩
    ·rw[<-HTI.out]
    ·intro t ht
     rw[eF _ (by have:=HN.out;omega)]
     exact HZ.out t ht
    ·have hs:=Fe (q:=q) (y:=lg ys k) (by rw[HZL.out];have:=HN.out;omega) HV.out (by rw[HT.out,HM.out]) hsum.out
     rw[bI,Nat.mul_add,Nat.add_mul,<-Nat.mul_assoc q (lg ys k),Nat.mul_assoc (q*lg ys k),<-Nat.pow_add,Nat.add_comm k j]
     exact hs
   case measure=>simp[intOf];omega
  ·obtain rfl:k=n:=by have:=HN.out;omega
   have hrd:=(hro.rd.drop j)
   rw[Nat.zero_add] at hrd
   have hend:lg (zs.drop j) k=lg xs (j+k):=by rw[fZ];exact HZ.out _ (.inr (by have:=HN.out;omega))
   have HE:=Lib.hid hend
   have HRO:=Lib.hid hro
   have HRD:=Lib.hid hrd
   clear hend hzo hro hon hrd
   go_wp2_with fail
   refine(oi (some ⟨g,j,none⟩) n1 cp1 (zs.drop j) k wr (by rw[List.length_drop,HZL.out];exact HN1.out) HRD.out (zA HZO.out j) (by rw[List.length_drop,HZL.out];omega) (by omega)).mono ?_
   rintro e w' ⟨rfl,hw⟩
   have hw:=hw.symm;subst hw
   rw[HE.out]
   go_wp2
   go_ret
   refine⟨cc,zs,?_,hcc,HZL.out,HZO.out,HRO.out,HON.out,HZ.out,?_⟩
   ·rw[<-HN.out];simp
   ·have hv:=HV.out
    rw[cd (by have:=HN.out;omega),HN.out] at hv
    exact hv
end
section
theorem IZ {zs:List Nat} {i y c P Q:Nat} (hlen:i<zs.length) (h:vl B32 zs+c*B32^i=P+Q):
 vl B32 (zs.set i ((lg zs i+y+c)%B32))+(lg zs i+y+c)/B32*B32^(i+1)=P+(Q+y*B32^i):=by
 obtain⟨T,hT⟩:∃T,T=lg zs i+y+c:=⟨_,rfl⟩
 rw[<-hT]
 have h1:=ow B32 (xs:=zs) (i:=i) (T%B32) hlen
 have h2:=jt B32 (B32^i) T
 rw[show B32^i*B32=B32^(i+1) from(Nat.pow_succ ..).symm] at h2
 have h5:T*B32^i=lg zs i*B32^i+y*B32^i+c*B32^i:=by rw[hT,Nat.add_mul,Nat.add_mul]
 omega
def NG (w:World) (base g cap:Nat) (xs:List Nat) (j:Nat) (ys:List Nat) (c i:Value) (wr:World):Prop:=
 ∃(k cc:Nat) (zs:List Nat),k<=ys.length/\i= .int .i64 k/\c= .int .u32 cc/\cc<=1/\zs.length=xs.length/\okb B32 zs/\Row wr .u32 167 base g cap zs/\du g w wr/\
  (∀t,t<j\/j+ys.length<=t->lg zs t=lg xs t)/\vl B32 zs+cc*B32^(j+k)=vl B32 xs+vl B32 (ys.take k)*B32^j
def Lk (w:World) (base g cap:Nat) (xs:List Nat) (j:Nat) (ys:List Nat) (e:Ending) (w':World):Prop:=
 ∃(cc:Nat) (zs:List Nat),e= .returned (.tuple #[])/\cc<=1/\zs.length=xs.length/\okb B32 zs/\Row w' .u32 167 base g cap zs/\du g w w'/\
  (∀t,t<j\/j+ys.length<=t->lg zs t=lg xs t)/\vl B32 zs+cc*B32^(j+ys.length)=vl B32 xs+vl B32 ys*B32^j
set_option maxRecDepth 100000 in
theorem Bb (base g cap cp2 cp1 j n1 n:Nat) (ad:Option Addr) (xs ys:List Nat) (w:World) (hr:Row w .u32 167 base g cap xs) (ho:okb B32 xs) (ry:Rd w .u32 ad ys) (oy:okb B32 ys) (ha:nz ad g)
 (hn1:n1=xs.length-j) (hn:n=ys.length) (hj:j+ys.length<=xs.length) (hl:xs.length<=1099511627777):
 CP 190 #[.slice (some ⟨g,j,none⟩) n1 cp1,.slice ad n cp2] w (Lk w base g cap xs j ys):=by
 have HN:=Lib.hid hn;have HN1:=Lib.hid hn1;have HO:=Lib.hid ho;have HR:=Lib.hid hr;have RY:=Lib.hid ry;have OY:=Lib.hid oy;have HA:=Lib.hid ha
 have hnj:n<=n1:=by omega
 have hn1b:n1<=1099511627777:=by omega
 have hjb:j<=1099511627777:=by omega
 clear hn hn1 ho hr ry oy ha
 go_enter Tryz.func190,Tryz.ntmps190
 go_wp2
 go_loopw [4,8] (fun c i wr=>NG w base g cap xs j ys c i wr) (fun _ i _=>n-(intOf i).toNat)
 case atStart=>exact⟨0,0,xs,Nat.zero_le _,rfl,rfl,by omega,rfl,HO.out,HR.out,du.refl _ _,fun _ _=>rfl,by simp[vl]⟩
 case round=>
  obtain⟨k,cc,zs,hk,rfl,rfl,hcc,hzl,hzo,hro,hon,hsame,hv⟩:=hrel
  have HV:=Lib.hid hv;have HZ:=Lib.hid hsame;have HZL:=Lib.hid hzl;have HZO:=Lib.hid hzo;have HON:=Lib.hid hon
  clear hv hsame hzl
  by_cases hlt:k<n
  ·obtain⟨b,off,ha,hbs,hcy⟩:=(hon.rd RY.out HA.out).get (by have:=HN.out;omega)
   have hcy:=hcy k (by have:=HN.out;omega)
   have hbg:b≠g:=HA.out b off ha
   subst ha
   have ly:lg ys k<B32:=di OY.out bi k
   have lz:lg zs (j+k)<B32:=di hzo bi (j+k)
   have hcs:=hro.cell (j:=j+k) (by rw[HZL.out];have:=HN.out;omega)
   have hfr:=hro.free (j+k)
   have HRO:=Lib.hid hro
   clear hzo hro hon
   go_upto_region 4 with fail
   go_region_with (go_at_call 237;refine(xe (lg zs (j+k)) (lg ys k) cc _ lz ly hcc).mono ?_;rintro e w' ⟨rfl,hw⟩;have hw:=hw.symm;subst hw)
   all_goals
    go_wp2
    go_roundw
    case rel=>
     refine⟨k+1,(lg zs (j+k)+lg ys k+cc)/B32,zs.set (j+k) ((lg zs (j+k)+lg ys k+cc)%B32),by have:=HN.out;omega,by go_num,by rw[dw];go_num,by rw[dw] at ly lz ⊢;omega,by rw[List.length_set];exact HZL.out,
      iy HZO.out (Nat.mod_lt _ bi),?_,?_,?_,?_⟩
     ·have hs:=(HRO.out.set (j+k) ((lg zs (j+k)+lg ys k+cc)%B32)).drew
      rw[show(((lg zs (j+k)+lg ys k+cc)%B32:Nat):Int)=((lg zs (j+k):Nat)+(lg ys k:Nat)+(cc:Nat):Int)%4294967296 from by rw[dw];omega] at hs
      exact hs
     ·exact(HON.out.setCell (p:=⟨g,j+k,none⟩) rfl _).drew
     ·intro t ht
      rw[eF _ (by have:=HN.out;omega)]
      exact HZ.out t ht
     ·have hs:=IZ (y:=lg ys k) (by rw[HZL.out];have:=HN.out;omega) HV.out
      rw[bI,Nat.add_mul,Nat.mul_assoc (lg ys k),<-Nat.pow_add,Nat.add_comm k j]
      exact hs
    case measure=>simp[intOf];omega
  ·obtain rfl:k=n:=by have:=HN.out;omega
   have HRO:=Lib.hid hro
   clear hzo hro hon
   go_wp2
   go_end0
   refine⟨cc,zs,rfl,hcc,HZL.out,HZO.out,HRO.out,HON.out,HZ.out,?_⟩
   have hv:=HV.out
   rw[cd (by have:=HN.out;omega),HN.out] at hv
   exact hv
end
section
theorem mE {xs:List Nat} {k:Nat} (h:∀t,k<=t->lg xs t=0):vl B32 (xs.take k)=vl B32 xs:=by
 by_cases hk:xs.length<=k
 ·exact cd hk
 ·rw[iM B32 xs k]
  have:vl B32 (xs.drop k)=0:=by
   have h2:=jd B32 (xs:=xs.drop k) (ys:=[]) (fun t=>by rw[fZ,h (k+t) (by omega)];rfl)
   rw[h2];rfl
  rw[this,Nat.mul_zero,Nat.add_zero]
theorem C1 {xs:List Nat} {k:Nat} (ho:okb B32 xs) (h:∀t,k<=t->lg xs t=0):vl B32 xs<B32^k:=by
 rw[<-mE h];exact lY ho bi k
theorem zr {xs:List Nat} {i:Nat} (ho:okb B32 xs) (h:∀t,i+2<=t->lg xs t=0):
 ∃r,vl B32 xs*B32=r+(lg xs (i+1)*18446744073709551616+pr xs i)*B32^i/\r<B32^i:=by
 have hv:=mE h
 rw[bI,bI] at hv
 have e2:lg xs (i+1)*B32^(i+1)*B32=lg xs (i+1)*18446744073709551616*B32^i:=by
  rw[Nat.pow_succ,Nat.mul_assoc,Nat.mul_assoc (B32^i),Nat.mul_comm (B32^i),<-Nat.mul_assoc]
  rfl
 have e1:lg xs i*B32^i*B32=lg xs i*4294967296*B32^i:=by
  rw[Nat.mul_assoc,Nat.mul_comm (B32^i),<-Nat.mul_assoc]
  rfl
 by_cases h0:i=0
 ·subst h0
  refine⟨0,?_,by simp⟩
  rw[<-hv,Nat.add_mul,Nat.add_mul,e1,e2]
  unfold pr
  rw[if_pos rfl,Nat.add_mul,Nat.add_zero]
  simp[vl]
  omega
 ·obtain⟨l,rfl⟩:∃l,i=l+1:=⟨i-1,by omega⟩
  refine⟨vl B32 (xs.take l)*B32,?_,?_⟩
  ·rw[<-hv,Nat.add_mul,Nat.add_mul,e1,e2,bI,Nat.add_mul]
   unfold pr
   rw[if_neg h0,Nat.add_sub_cancel,Nat.add_mul,Nat.add_mul]
   have:lg xs l*B32^l*B32=lg xs l*B32^(l+1):=by rw[Nat.pow_succ,Nat.mul_assoc]
   omega
  ·rw[Nat.pow_succ]
   exact Nat.mul_lt_mul_of_pos_right (lY ho bi l) bi
theorem OU {V E A H F r1 r2 d s:Nat} (h1:V*s=r1+A*F) (h2:E*s=r2+H*F) (b2:r2<F) (hH:4294967296<=H) (hd:d<=A/H) (hm:d<4294967296):
 d*E<V+E:=by
 have hdH:d*H<=A:=by
  have:=Nat.mul_le_mul_right H hd
  exact Nat.le_trans this (Nat.div_mul_le_self A H)
 have hdHF:d*H*F<=A*F:=Nat.mul_le_mul_right F hdH
 have hdr:d*r2<=d*F:=Nat.mul_le_mul_left d (Nat.le_of_lt b2)
 have hdF:(d+1)*F<=H*F:=Nat.mul_le_mul_right F (by omega)
 rw[Nat.add_mul] at hdF
 have e:d*E*s=d*r2+d*H*F:=by rw[Nat.mul_assoc,h2,Nat.mul_add,Nat.mul_assoc]
 have hlt:d*E*s<(V+E)*s:=by
  rw[e,Nat.add_mul,h1,h2]
  omega
 exact Nat.lt_of_mul_lt_mul_right hlt
theorem Oa {V E A H F r1 r2 s:Nat} (h1:V*s=r1+A*F) (b1:r1<F) (h2:E*s=r2+H*F) (hH:0<H):
 V<(A/H+1)*E:=by
 have hA:A+1<=(A/H+1)*H:=by
  have:=Nat.div_add_mod A H
  have:=Nat.mod_lt A hH
  rw[Nat.add_mul,Nat.mul_comm (A/H)]
  omega
 have hAF:=Nat.mul_le_mul_right F hA
 rw[Nat.add_mul] at hAF
 have e:(A/H+1)*E*s=(A/H+1)*r2+(A/H+1)*H*F:=by rw[Nat.mul_assoc,h2,Nat.mul_add,Nat.mul_assoc]
 have hlt:V*s<(A/H+1)*E*s:=by
  rw[e,h1]
  omega
 exact Nat.lt_of_mul_lt_mul_right hlt
theorem IH {V V' E D N u cc:Nat} (h:V'+u*N+D=V+cc*N) (hlo:V<D+E) (hE:E<N) (hc:cc<=u):V=D+V'/\V'<E:=by
 obtain⟨t,rfl⟩:∃t,u=cc+t:=⟨u-cc,by omega⟩
 rw[Nat.add_mul] at h
 have:t=0:=by
  by_cases ht:t=0
  ·exact ht
  ·have:=Nat.mul_le_mul_right N (show 1<=t by omega)
   omega
 subst this
 omega
theorem D5 {V V' V2 E D N u cc c2:Nat} (h:V'+u*N+D=V+cc*N) (hhi:D<V+E) (hE:E<N) (hc:u<cc) (hV:V'<N) (hp:V2+c2*N=V'+E) (hV2:V2<N) (hc2:c2<=1):
 V+E=D+V2/\V2<E:=by
 obtain⟨t,rfl⟩:∃t,cc=u+1+t:=⟨cc-u-1,by omega⟩
 rw[Nat.add_mul,Nat.add_mul] at h
 have ht:t=0:=by
  by_cases ht:t=0
  ·exact ht
  ·have:=Nat.mul_le_mul_right N (show 1<=t by omega)
   omega
 subst ht
 have h2:c2=1:=by
  by_cases h2:c2=1
  ·exact h2
  ·obtain rfl:c2=0:=by omega
   omega
 subst h2
 omega
theorem AX {X V E d R b:Nat} (hV:V=X%(E*b)) (hd:V=d*E+R) (hR:R<E):R=X%E/\X/E=X/(E*b)*b+d:=by
 have hE:0<E:=by omega
 have hx:=Nat.div_add_mod X (E*b)
 rw[<-hV,hd] at hx
 have e:X=R+E*(X/(E*b)*b+d):=by
  rw[Nat.mul_add,Nat.mul_comm E d]
  rw[Nat.mul_assoc,Nat.mul_comm b] at hx
  omega
 constructor
 ·conv=>rhs;rw[e]
  rw[Nat.add_mul_mod_self_left,Nat.mod_eq_of_lt hR]
 ·conv=>lhs;rw[e]
  rw[Nat.add_mul_div_left _ _ hE,Nat.div_eq_of_lt hR,Nat.zero_add]
end
section
theorem qA {xs:List Nat} {k:Nat} (h:vl B32 xs<B32^k):∀t,k<=t->lg xs t=0:=by
 intro t ht
 by_cases h0:lg xs t=0
 ·exact h0
 ·exfalso
  have h1:=iM B32 xs t
  rw[fQ] at h1
  have h2:=Nat.mul_le_mul_left (B32^t) (show 1<=lg xs t+B32*vl B32 (xs.drop (t+1)) by omega)
  have h3:B32^k<=B32^t:=Nat.pow_le_pow_right bi ht
  omega
theorem Nc {a b:Nat} (ha:a<4294967296) (hb:b<4294967296):a*4294967296+b<18446744073709551616:=by omega
theorem Kh {xs:List Nat} {i:Nat} (ho:okb B32 xs):pr xs i<18446744073709551616:=by
 have h1:=di ho bi i
 have h2:=di ho bi (i-1)
 rw[dw] at h1 h2
 have h3:(if i=0 then 0 else lg xs (i-1))<4294967296:=by split <;> omega
 unfold pr
 exact Nc h1 h3
theorem KZ {xs:List Nat} {i:Nat} (h:lg xs i≠0):4294967296<=pr xs i:=by
 have h1:4294967296<=lg xs i*4294967296:=by omega
 unfold pr
 exact Nat.le_trans h1 (Nat.le_add_right _ _)
theorem Fl {zs ys:List Nat} {j d:Nat} (oz:okb B32 zs) (oy:okb B32 ys) (hn:1<=ys.length) (hV:vl B32 zs<vl B32 ys*B32^(j+1))
 (hd:d=min ((lg zs (j+ys.length)*18446744073709551616+pr zs (j+ys.length-1))/pr ys (ys.length-1)) 4294967295) (ht:lg ys (ys.length-1)≠0):
 d*(vl B32 ys*B32^j)<vl B32 zs+vl B32 ys*B32^j/\vl B32 zs<(d+1)*(vl B32 ys*B32^j)/\(∀t,j+ys.length<t->lg zs t=0)/\vl B32 ys*B32^j<B32^(j+ys.length):=by
 have hH:=KZ ht
 obtain⟨n,hnn⟩:∃n,ys.length=n+1:=⟨ys.length-1,by omega⟩
 have hY:=ie oy
 have hE:vl B32 ys*B32^j<B32^(j+ys.length):=by
  rw[Nat.add_comm,Nat.pow_add]
  exact Nat.mul_lt_mul_of_pos_right hY (Nat.pow_pos bi)
 have hz:∀t,j+ys.length+1<=t->lg zs t=0:=by
  apply qA
  refine Nat.lt_trans hV ?_
  rw[show j+ys.length+1=ys.length+(j+1) from by omega,Nat.pow_add B32 ys.length (j+1)]
  exact Nat.mul_lt_mul_of_pos_right hY (Nat.pow_pos bi)
 rw[hnn] at hz hd ht hH ⊢
 obtain⟨r1,e1,b1⟩:=zr (i:=j+n) oz (fun t h=>hz t (by omega))
 obtain⟨r2,e2,b2⟩:=zr (xs:=ys) (i:=n) oy (fun t h=>eS (by omega))
 rw[eS (xs:=ys) (i:=n+1) (by omega),Nat.zero_mul,Nat.zero_add] at e2
 rw[show j+(n+1)-1=j+n from by omega,Nat.add_sub_cancel,show j+(n+1)=j+n+1 from by omega] at hd
 rw[Nat.add_sub_cancel] at hH
 have e3:vl B32 ys*B32^j*B32=r2*B32^j+pr ys n*B32^(j+n):=by
  rw[Nat.mul_assoc,Nat.mul_comm (B32^j) B32,<-Nat.mul_assoc,e2,Nat.add_mul,Nat.mul_assoc,<-Nat.pow_add,Nat.add_comm n j]
 have b3:r2*B32^j<B32^(j+n):=by
  rw[Nat.add_comm,Nat.pow_add]
  exact Nat.mul_lt_mul_of_pos_right b2 (Nat.pow_pos bi)
 refine⟨?_,?_,fun t h=>hz t (by omega),by rw[<-hnn];exact hE⟩
 ·exact OU e1 e3 b3 hH (by rw[hd];exact Nat.min_le_left _ _) (by rw[hd];have:=Nat.min_le_right ((lg zs (j+n+1)*18446744073709551616+pr zs (j+n))/pr ys n) 4294967295;omega)
 ·by_cases hm:(lg zs (j+n+1)*18446744073709551616+pr zs (j+n))/pr ys n<=4294967295
  ·rw[hd,Nat.min_eq_left hm]
   exact Oa e1 b1 e3 (by omega)
  ·rw[hd,Nat.min_eq_right (by omega)]
   rw[Nat.pow_succ,<-Nat.mul_assoc,Nat.mul_comm,dw] at hV
   exact hV
theorem md {zs:List Nat} {K:Nat} (oz:okb B32 zs) (hz:∀t,K<t->lg zs t=0):∃V',vl B32 zs=V'+lg zs K*B32^K/\V'<B32^K:=
 ⟨vl B32 (zs.take K),by rw[<-bI,mE (fun t h=>hz t (by omega))],lY oz bi K⟩
theorem Jy {V E d u cc N W:Nat} {z1:List Nat} {K:Nat} (hN:N=B32^K) (o1:okb B32 z1) (hz:∀t,K<t->lg z1 t=0) (hu:lg z1 K=u) (hW:W=vl B32 z1)
 (h:W+d*E=V+cc*N) (hlo:V<(d+1)*E) (hE:E<N) (hc:cc<=u):∃R,W=R+u*N/\V=d*E+R/\R<E:=by
 obtain⟨V',e,hV'⟩:=md o1 hz
 rw[<-hW,hu,<-hN] at e
 rw[Nat.add_mul,Nat.one_mul] at hlo
 have:=IH (by rw[<-e];exact h) hlo hE hc
 exact⟨V',e,this⟩
theorem Jb {V E d u cc N W:Nat} {z1:List Nat} {K:Nat} (hN:N=B32^K) (o1:okb B32 z1) (hz:∀t,K<t->lg z1 t=0) (hu:lg z1 K=u) (hW:W=vl B32 z1)
 (h:W+d*E=V+cc*N) (hc:u<cc):1<=d:=by
 obtain⟨V',e,hV'⟩:=md o1 hz
 rw[<-hW,hu,<-hN] at e
 rw[<-hN] at hV'
 by_cases h0:d=0
 ·subst h0
  obtain⟨t,rfl⟩:∃t,cc=u+1+t:=⟨cc-u-1,by omega⟩
  rw[Nat.add_mul,Nat.add_mul] at h
  omega
 ·omega
theorem CW {V E d u cc c2 N W W2:Nat} {z1 z2:List Nat} {K:Nat} (hN:N=B32^K) (o1:okb B32 z1) (hz:∀t,K<t->lg z1 t=0) (hu:lg z1 K=u) (hW:W=vl B32 z1)
 (o2:okb B32 z2) (hz2:∀t,K<t->lg z2 t=0) (hu2:lg z2 K=u) (hW2:W2=vl B32 z2)
 (h:W+d*E=V+cc*N) (hhi:d*E<V+E) (hE:E<N) (hc:u<cc) (hp:W2+c2*N=W+E) (hc2:c2<=1):1<=d/\∃R,W2=R+u*N/\V=(d-1)*E+R/\R<E:=by
 obtain⟨V',e,hV'⟩:=md o1 hz
 rw[<-hW,hu,<-hN] at e
 obtain⟨V2,e2,hV2⟩:=md o2 hz2
 rw[<-hW2,hu2,<-hN] at e2
 rw[<-hN] at hV' hV2
 have hh:=D5 (V':=V') (V2:=V2) (c2:=c2) (by rw[<-e];exact h) hhi hE hc hV' (by rw[e,e2] at hp;omega) hV2 hc2
 have hd:1<=d:=by
  by_cases h0:d=0
  ·subst h0;omega
  ·omega
 refine⟨hd,V2,e2,?_,hh.2⟩
 obtain⟨f,rfl⟩:∃f,d=f+1:=⟨d-1,by omega⟩
 rw[Nat.add_sub_cancel]
 have h1:=hh.1
 rw[Nat.add_mul,Nat.one_mul] at h1
 omega
theorem Hb {zs:List Nat} {K R u:Nat} (hu:lg zs K=u) (h:vl B32 zs=R+u*B32^K) (hk:K<zs.length):vl B32 (zs.set K 0)=R:=by
 have:=ow B32 (xs:=zs) (i:=K) 0 hk
 rw[hu,h] at this
 omega
end
section
structure Two (g h:Nat) (w w':World):Prop where
 os:w'.os=w.os
 tape:w'.tape=w.tape
 output:w'.output=w.output
 size:w'.heap.size=w.heap.size
 block:∀k,k≠g->k≠h->w'.heap[k]?=w.heap[k]?
theorem Two.refl (g h:Nat) (w:World):Two g h w w:=⟨rfl,rfl,rfl,rfl,fun _ _ _=>rfl⟩
theorem Two.trans {g h:Nat} {a b c:World} (x:Two g h a b) (y:Two g h b c):Two g h a c:=
 ⟨y.os.trans x.os,y.tape.trans x.tape,y.output.trans x.output,y.size.trans x.size,fun i h1 h2=>(y.block i h1 h2).trans (x.block i h1 h2)⟩
theorem du.two {g h:Nat} {a b:World} (x:du g a b):Two g h a b:=⟨x.os,x.tape,x.output,x.size,fun k h1 _=>x.block k h1⟩
theorem du.two' {g h:Nat} {a b:World} (x:du h a b):Two g h a b:=⟨x.os,x.tape,x.output,x.size,fun k _ h2=>x.block k h2⟩
theorem Two.one {g:Nat} {a b:World} (x:Two g g a b):du g a b:=⟨x.os,x.tape,x.output,x.size,fun k h1=>x.block k h1 h1⟩
theorem Two.below {g h B:Nat} {w w':World} (x:Two g h w w') (h1:B<=g) (h2:B<=h):Below B w w':=
 ⟨x.os,x.tape,x.output,Nat.le_of_eq x.size.symm,fun k hk=>x.block k (by omega) (by omega)⟩
theorem du.drewN {g:Nat} {a w:World} (x:du g a w) (n:Nat):du g a (w.drewN n):=⟨x.os,x.tape,x.output,x.size,x.block⟩
theorem Two.rd {g h:Nat} {w w':World} {k:IntKind} {ad:Option Addr} {xs:List Nat} (x:Two g h w w') (r:Rd w k ad xs) (ha:nz ad g) (hb:nz ad h):Rd w' k ad xs:=by
 refine⟨fun i hi=>?_⟩
 obtain⟨b,off,e,hlt,hc⟩:=r.cell i hi
 refine⟨b,off,e,by rw[x.size];exact hlt,?_⟩
 rw[<-hc]
 unfold World.cell?
 rw[x.block b (ha b off e) (hb b off e)]
def nB (w:World) (base g h cq D m Qv:Nat) (vq:Value):Prop:=
 vq= .slice none 0 0\/(vq= .slice (some ⟨h,0,none⟩) D cq/\h≠g/\∃qs,qs.length=D/\okb B32 qs/\Row w .u32 167 base h cq qs/\(∀t,t<m->lg qs t=0)/\vl B32 qs=Qv)
theorem nB.only {w w':World} {base g h cq D m Qv:Nat} {vq:Value} (x:nB w base g h cq D m Qv vq) (o:du g w w'):nB w' base g h cq D m Qv vq:=by
 rcases x with x|⟨e,hne,qs,l,ok,r,z,v⟩
 ·exact .inl x
 ·exact .inr ⟨e,hne,qs,l,ok,r.of_block (o.block h hne),z,v⟩
theorem nB.to {w:World} {base g h cq D m Qv Qv':Nat} {vq:Value} (x:nB w base g h cq D m Qv vq) (e:Qv=Qv'):nB w base g h cq D m Qv' vq:=e▸x
def PE (w:World) (base g cap L X Y n h cq D:Nat) (vq i:Value) (wr:World):Prop:=
 ∃(m:Nat) (zs:List Nat),m<=L+1-n/\i= .int .i64 ((m:Int)-1)/\zs.length=L/\okb B32 zs/\Row wr .u32 167 base g cap zs/\Two g h w wr/\vl B32 zs=X%(Y*B32^m)/\nB wr base g h cq D m (X/(Y*B32^m)*B32^m) vq
def vP (w:World) (base g cap L X Y h cq D:Nat) (vq:Value) (e:Ending) (w':World):Prop:=
 ∃(zs:List Nat),e= .returned (.tuple #[])/\zs.length=L/\okb B32 zs/\Row w' .u32 167 base g cap zs/\Two g h w w'/\vl B32 zs=X%Y/\nB w' base g h cq D 0 (X/Y) vq
def EU (w:World) (base g cap L K E V:Nat) (s9:Value) (wc:World):Prop:=
 ∃(dd R:Nat) (zs:List Nat),s9= .int .u64 dd/\dd<4294967296/\zs.length=L/\okb B32 zs/\Row wc .u32 167 base g cap zs/\du g w wc/\vl B32 zs=R+lg zs K*B32^K/\V=dd*E+R/\R<E
def LU (w:World) (base g cap L dd R:Nat) (s9:Value) (wc:World):Prop:=
 ∃(zs:List Nat),s9= .int .u64 dd/\zs.length=L/\okb B32 zs/\Row wc .u32 167 base g cap zs/\du g w wc/\vl B32 zs=R
theorem Dj {X Y L n:Nat} (h:n<=L) (hX:X<B32^L) (hY:B32^n<=Y*B32):X<Y*B32^(L+1-n):=by
 have e:B32^L*B32=B32^n*B32^(L+1-n)*1:=by rw[Nat.mul_one,<-Nat.pow_add,<-Nat.pow_succ];congr 1;omega
 have h1:=Nat.mul_le_mul_right (B32^(L+1-n)) hY
 have h2:=Nat.mul_lt_mul_of_pos_right hX bi
 rw[e,Nat.mul_one] at h2
 have h3:X*B32<Y*B32^(L+1-n)*B32:=by
  rw[Nat.mul_assoc Y,Nat.mul_comm (B32^_) B32,<-Nat.mul_assoc]
  exact Nat.lt_of_lt_of_le h2 h1
 exact Nat.lt_of_mul_lt_mul_right h3
theorem C9 {ys:List Nat} {n:Nat} (hn:n=ys.length) (h1:1<=n) (ht:lg ys (n-1)≠0):B32^n<=vl B32 ys*B32:=by
 by_cases h:vl B32 ys<B32^(n-1)
 ·exact absurd (qA h (n-1) (Nat.le_refl _)) ht
 ·have:=Nat.mul_le_mul_right B32 (show B32^(n-1)<=vl B32 ys by omega)
  rw[<-Nat.pow_succ,show(n-1).succ =n from by omega] at this
  exact this
set_option maxRecDepth 100000 in
theorem uU (base g cap L n h cq D cp2:Nat) (ad:Option Addr) (xs ys:List Nat) (vq:Value) (w:World) (hr:Row w .u32 167 base g cap xs) (ho:okb B32 xs) (ry:Rd w .u32 ad ys) (oy:okb B32 ys) (ha:nz ad g) (hah:nz ad h)
 (hL:L=xs.length) (hn:n=ys.length) (hn1:1<=n) (htop:lg ys (n-1)≠0) (hl:L<=1099511627777) (hnl:n<=1099511627777) (hD:L+1-n<=D) (hq:nB w base g h cq D (L+1-n) 0 vq):
 CP 131 #[.slice (some ⟨g,0,none⟩) L cap,.slice ad n cp2,vq] w (vP w base g cap L (vl B32 xs) (vl B32 ys) h cq D vq):=by
 obtain⟨X,hX⟩:∃X,X=vl B32 xs:=⟨_,rfl⟩
 obtain⟨Y,hY⟩:∃Y,Y=vl B32 ys:=⟨_,rfl⟩
 have hXL:X<B32^L:=by rw[hX,hL];exact ie ho
 have hYn:B32^n<=Y*B32:=by rw[hY];exact C9 hn hn1 htop
 have hYp:0<Y:=Nat.pos_of_ne_zero (fun h0=>by rw[h0,Nat.zero_mul] at hYn;have:=Nat.pow_pos (n:=n) bi;omega)
 have HYP:=Lib.hid hYp
 have hH:=KZ htop
 have hH2:=Kh (i:=n-1) oy
 obtain⟨H,hHe⟩:∃H,H=pr ys (n-1):=⟨_,rfl⟩
 rw[<-hHe] at hH hH2
 have hpair:=tM ad n cp2 ys (n-1) w hn ry oy (by omega) (by omega)
 rw[<-hHe,show((n-1:Nat):Int)=(n:Int)-1 from by omega] at hpair
 have HPAIR:=Lib.hid hpair;have HX:=Lib.hid hX;have HY:=Lib.hid hY;have HL:=Lib.hid hL;have HN:=Lib.hid hn;have HXL:=Lib.hid hXL;have HYN:=Lib.hid hYn;have HHE:=Lib.hid hHe
 have HR:=Lib.hid hr;have HO:=Lib.hid ho;have RY:=Lib.hid ry;have OY:=Lib.hid oy;have HA:=Lib.hid ha;have HAH:=Lib.hid hah;have HTOP:=Lib.hid htop;have HQ:=Lib.hid hq
 rw[<-hX,<-hY]
 clear hYp hpair hX hY hL hn hXL hYn hHe hr ho ry oy ha hah htop hq
 by_cases hLn:L<n
 ·have hXY:X<Y:=by
   have h1:=Nat.mul_lt_mul_of_pos_right HXL.out bi
   rw[<-Nat.pow_succ] at h1
   have h2:B32^L.succ<=B32^n:=Nat.pow_le_pow_right bi hLn
   exact Nat.lt_of_mul_lt_mul_right (Nat.lt_of_lt_of_le h1 (Nat.le_trans h2 HYN.out))
  have hf:vP w base g cap L X Y h cq D vq (.returned (.tuple #[])) w:=
   ⟨xs,rfl,HL.out.symm,HO.out,HR.out,Two.refl _ _ _,by rw[Nat.mod_eq_of_lt hXY];exact HX.out.symm,by have:=HQ.out;rw[show L+1-n=0 from by omega] at this;rw[Nat.div_eq_of_lt hXY];exact this⟩
  have HF:=Lib.hid hf;clear hf hXY
  go_enter Tryz.func131,Tryz.ntmps131
  go_wp2_with fail
  refine(HPAIR.out).mono ?_
  rintro e w' ⟨rfl,hw⟩
  have hw:=hw.symm;subst hw
  go_wp2
  go_loopw [8] (fun i wr=>i= .int .i64 ((L:Int)-(n:Int))/\wr=w) (fun _ _=>0)
  case atStart=>exact⟨rfl,rfl⟩
  case round=>
   obtain⟨rfl,hw⟩:=hrel
   have hw:=hw.symm;subst hw
   go_wp2
   go_end0
   exact HF.out
 ·go_enter Tryz.func131,Tryz.ntmps131
  go_wp2_with fail
  refine(HPAIR.out).mono ?_
  rintro e w' ⟨rfl,hw⟩
  have hw:=hw.symm;subst hw
  go_wp2
  go_loopw [8] (fun i wr=>PE w base g cap L X Y n h cq D vq i wr) (fun i _=>(intOf i+1).toNat)
  case atStart=>
   have hlt:=Dj (n:=n) (L:=L) (by omega) HXL.out HYN.out
   exact⟨L+1-n,xs,Nat.le_refl _,by go_num,HL.out.symm,HO.out,HR.out,Two.refl _ _ _,by rw[Nat.mod_eq_of_lt hlt];exact HX.out.symm,HQ.out.to (by rw[Nat.div_eq_of_lt hlt,Nat.zero_mul])⟩
  case round=>
   obtain⟨m,zs,hm,rfl,hzl,hzo,hro,htw,hv,hqh⟩:=hrel
   have HV:=Lib.hid hv;have HZL:=Lib.hid hzl;have HZO:=Lib.hid hzo;have HRO:=Lib.hid hro;have HTW:=Lib.hid htw;have HQH:=Lib.hid hqh
   clear hv hzl hzo hro htw hqh
   by_cases hp:0<m
   ·obtain⟨j,rfl⟩:∃j,m=j+1:=⟨m-1,by omega⟩
    rw[show((j+1:Nat):Int)-1=(j:Int) from by omega]
    have hjn:j+n<=L:=by omega
    clear hm hp
    have hcap:=HRO.out.parts.2.2.1
    rw[HZL.out] at hcap
    have hjc:j<cap:=by omega
    have hjc2:¬cap-j=0:=by omega
    have lu:lg zs (j+n)<4294967296:=di HZO.out bi (j+n)
    have lp:=Kh (i:=j+n-1) HZO.out
    have hat:=oi (some ⟨g,0,none⟩) L cap zs (j+n) wr HZL.out.symm HRO.out.rd HZO.out (by rw[HZL.out];omega) (by omega)
    have hpr:=tM (some ⟨g,0,none⟩) L cap zs (j+n-1) wr HZL.out.symm HRO.out.rd HZO.out (by rw[HZL.out];omega) (by omega)
    have hdv:=FN (lg zs (j+n)) (pr zs (j+n-1)) H wr hH hH2 (by omega) lp
    rw[show((j+n:Nat):Int)=(j:Int)+(n:Int) from by omega] at hat
    rw[show((j+n-1:Nat):Int)=(j:Int)+(n:Int)-1 from by omega] at hpr
    have hest:=Fl (zs:=zs) (ys:=ys) (j:=j) HZO.out OY.out (by rw[<-HN.out];exact hn1) (by rw[HV.out,<-HY.out];exact Nat.mod_lt _ (Nat.mul_pos HYP.out (Nat.pow_pos bi))) rfl (by rw[<-HN.out];exact HTOP.out)
    rw[<-HN.out,<-HHE.out,<-HY.out] at hest
    obtain⟨u,hu⟩:∃u,u=lg zs (j+n):=⟨_,rfl⟩
    obtain⟨v2,hv2⟩:∃v2,v2=pr zs (j+n-1):=⟨_,rfl⟩
    rw[<-hu] at lu hat hdv hest
    rw[<-hv2] at lp hpr hdv hest
    obtain⟨qh,hqh⟩:∃qh,qh=(u*18446744073709551616+v2)/H:=⟨_,rfl⟩
    rw[<-hqh] at hdv hest
    obtain⟨d,hd⟩:∃d,d=min qh 4294967295:=⟨_,rfl⟩
    rw[<-hd] at hest
    have hdm:d<4294967296:=by have:=Nat.min_le_right qh 4294967295;omega
    have HAT:=Lib.hid hat;have HPR:=Lib.hid hpr;have HDV:=Lib.hid hdv;have HEST:=Lib.hid hest;have HU:=Lib.hid hu;have HD:=Lib.hid hd
    clear hat hpr hdv hest hu hv2 hqh hd lp lu
    go_wp2_with fail
    refine(HAT.out).mono ?_
    rintro e w' ⟨rfl,hw⟩
    have hw:=hw.symm;subst hw
    go_wp2_with fail
    refine(HPR.out).mono ?_
    rintro e w' ⟨rfl,hw⟩
    have hw:=hw.symm;subst hw
    go_wp2_with fail
    refine(HDV.out).mono ?_
    rintro e w' ⟨rr,nd,rfl,rfl⟩
    go_wp2_with fail
    rw[show min (qh:Int) 4294967295=(d:Int) from by rw[HD.out];omega]
    refine(Jh base g cap cp2 (cap-j) j (L-j) n d ad zs ys (wr.drewN nd) (HRO.out.drewN nd) HZO.out ((HTW.out.rd RY.out HA.out HAH.out).drewN nd) OY.out HA.out (by rw[HZL.out]) HN.out (by rw[HZL.out,<-HN.out];exact hjn) hdm (by rw[HZL.out];exact hl)).mono ?_
    rintro e w1 ⟨cc,z1,rfl,hcc,hl1,ho1,hr1,hon1,hs1,hv1⟩
    rw[<-HN.out] at hs1 hv1 ⊢
    rw[<-HY.out] at hv1
    rw[<-HU.out]
    obtain⟨bb,hbb⟩:∃bb,bb=decide (u<cc):=⟨_,rfl⟩
    rw[<-hbb]
    have hz1:∀t,j+n<t->lg z1 t=0:=fun t h=>by rw[hs1 t (.inr (by omega))];exact HEST.out.2.2.1 t h
    have hu1:lg z1 (j+n)=u:=by rw[hs1 _ (.inr (Nat.le_refl _)),HU.out]
    have hv1':vl B32 z1+d*(Y*B32^j)=vl B32 zs+cc*B32^(j+n):=by rw[<-Nat.mul_assoc];exact hv1
    have HBB:=Lib.hid hbb;have HL1:=Lib.hid hl1;have HO1:=Lib.hid ho1;have HR1:=Lib.hid hr1;have HON1:=Lib.hid (((du.refl g wr).drewN nd).trans hon1);have HS1:=Lib.hid hs1;have HV1:=Lib.hid hv1'
    have HZ1:=Lib.hid hz1;have HU1:=Lib.hid hu1
    have RY1:=Lib.hid (hon1.rd ((HTW.out.rd RY.out HA.out HAH.out).drewN nd) HA.out)
    clear hbb hl1 ho1 hr1 hon1 hs1 hv1 hv1' hz1 hu1
    go_upto_if 48 with fail
    go_cut [9] (fun s9 wc=>EU wr base g cap L (j+n) (Y*B32^j) (vl B32 zs) s9 wc)
    case first=>
     cases bb with
     |false=>
      have hnd:cc<=u:=by have:=of_decide_eq_false HBB.out.symm;omega
      go_wp2
      go_meet
      obtain⟨R,e1,e2,e3⟩:=Jy rfl HO1.out HZ1.out HU1.out rfl HV1.out HEST.out.2.1 HEST.out.2.2.2 hnd
      exact⟨d,R,z1,rfl,hdm,by rw[HL1.out,HZL.out],HO1.out,HR1.out,HON1.out,by rw[HU1.out];exact e1,e2,e3⟩
     |true=>
      have hnd:u<cc:=of_decide_eq_true HBB.out.symm
      have hd1:1<=d:=Jb rfl HO1.out HZ1.out HU1.out rfl HV1.out hnd
      go_wp2_with fail
      refine(Bb base g cap cp2 (cap-j) j (L-j) n ad z1 ys w1 HR1.out HO1.out RY1.out OY.out HA.out (by rw[HL1.out,HZL.out]) HN.out (by rw[HL1.out,HZL.out,<-HN.out];exact hjn) (by rw[HL1.out,HZL.out];exact hl)).mono ?_
      rintro e w2 ⟨c2,z2,rfl,hc2,hl2,ho2,hr2,hon2,hs2,hv2⟩
      rw[<-HN.out] at hs2 hv2
      rw[<-HY.out] at hv2
      have hz2:∀t,j+n<t->lg z2 t=0:=fun t h=>by rw[hs2 t (.inr (by omega))];exact HZ1.out t h
      have hu2:lg z2 (j+n)=u:=by rw[hs2 _ (.inr (Nat.le_refl _)),HU1.out]
      obtain⟨hdp,R,e1,e2,e3⟩:=CW rfl HO1.out HZ1.out HU1.out rfl ho2 hz2 hu2 rfl HV1.out HEST.out.1 HEST.out.2.2.2 hnd hv2 hc2
      have HF:=Lib.hid (show EU wr base g cap L (j+n) (Y*B32^j) (vl B32 zs) (.int .u64 ((d:Int)-1)) w2 from
       ⟨d-1,R,z2,by congr 1;omega,by omega,by rw[hl2,HL1.out,HZL.out],ho2,hr2,HON1.out.trans hon2,by rw[hu2];exact e1,e2,e3⟩)
      clear hc2 hl2 ho2 hr2 hon2 hs2 hv2 hz2 hu2 hdp e1 e2 e3
      go_wp2
      go_meet
      exact HF.out
    case rest=>
     obtain⟨dd,R,z,rfl,hdd,hzl2,hzo2,hro2,hon2,hvv,hVd,hR⟩:=hcut
     have hst:=AX (X:=X) (b:=B32) (by rw[Nat.mul_assoc,<-Nat.pow_succ];exact HV.out) hVd hR
     have HST:=Lib.hid hst;have HVV:=Lib.hid hvv;have HZL2:=Lib.hid hzl2;have HZO2:=Lib.hid hzo2;have HRO2:=Lib.hid hro2
     have HTW2:=Lib.hid (HTW.out.trans hon2.two)
     have HQ2:=Lib.hid (HQH.out.only hon2)
     clear hzl2 hzo2 hro2 hon2 hvv hVd hR hst
     clear HPR HAT HDV HEST HU HD HBB HL1 HO1 HR1 HON1 HS1 HV1 HZ1 HU1 RY1
     obtain⟨wx,hwx⟩:∃wx,wx=wc:=⟨_,rfl⟩
     subst hwx
     go_upto_if 61 with fail
     go_cut [9] (fun s9 wd=>LU wx base g cap L dd R s9 wd)
     case first=>
      by_cases hK:j+n<L
      ·have hcs:=HRO2.out.cell (j:=j+n) (by rw[HZL2.out];exact hK)
       have hfr:=HRO2.out.free (j+n)
       go_wp2
       go_meet
       exact⟨z.set (j+n) 0,rfl,by rw[List.length_set];exact HZL2.out,iy HZO2.out bi,HRO2.out.set (j+n) 0,(du.refl g wx).setCell (p:=⟨g,j+n,none⟩) rfl _,Hb rfl HVV.out (by rw[HZL2.out];exact hK)⟩
      ·have h0:lg z (j+n)=0:=eS (by rw[HZL2.out];omega)
       have hR:Hid (vl B32 z=R):=by unfold Hid;rw[HVV.out,h0];omega
       clear h0
       go_wp2
       go_meet
       exact⟨z,rfl,HZL2.out,HZO2.out,HRO2.out,du.refl _ _,hR.out⟩
     case rest=>
      obtain⟨z',rfl,hzl3,hzo3,hro3,hon3,hv3⟩:=hcut
      have HTW3:=Lib.hid (HTW2.out.trans hon3.two)
      have hq3:=HQ2.out.only hon3
      have hpost:=Lib.hid (show vl B32 z'=X%(Y*B32^j) from hv3.trans HST.out.1)
      have HZL3:=Lib.hid hzl3;have HZO3:=Lib.hid hzo3;have HRO3:=Lib.hid hro3
      clear hzl3 hzo3 hro3 hon3 hv3 HRO2 HZL2 HZO2 HTW2 HQ2 HVV HTW HQH HRO HZO HZL
      rcases hq3 with rfl|⟨rfl,hne,qs,hql,hqo,hqr,hqz,hqv⟩
      ·go_wp2
       go_roundw
       case rel=>exact⟨j,z',by omega,by go_num,HZL3.out,HZO3.out,HRO3.out,HTW3.out,hpost.out,.inl rfl⟩
       case measure=>simp[intOf]
      ·have hcs:=hqr.cell (j:=j) (by omega)
       have hfr:=hqr.free j
       have HQR:=Lib.hid hqr;have HQL:=Lib.hid hql;have HQZ:=Lib.hid hqz;have HQV:=Lib.hid hqv;have HQO:=Lib.hid hqo
       have hjD:j<D:=by omega
       have hdmod:(dd:Int)%4294967296=(dd:Int):=by omega
       clear hqr hql hqz hqv hqo
       go_wp2
       go_roundw
       case rel=>
        have hset:=ow B32 (xs:=qs) (i:=j) dd (by rw[HQL.out];exact hjD)
        rw[HQZ.out j (by omega),HQV.out] at hset
        refine⟨j,z',by omega,by go_num,HZL3.out,HZO3.out,?_,?_,hpost.out,.inr ⟨rfl,hne,qs.set j dd,by rw[List.length_set];exact HQL.out,iy HQO.out hdd,?_,?_,?_⟩⟩
        ·exact HRO3.out.of_block (Below.heap_setCell _ _ _ _ (fun e=>hne e.symm))
        ·exact HTW3.out.trans (((du.refl h wc).setCell (p:=⟨h,j,none⟩) rfl _).two')
        ·exact HQR.out.set j dd
        ·intro t ht
         rw[eF _ (by omega)]
         exact HQZ.out t (by omega)
        ·rw[HST.out.2,Nat.add_mul]
         rw[Nat.mul_assoc,Nat.mul_comm B32,<-Nat.pow_succ]
         rw[Nat.mul_assoc,<-Nat.pow_succ]
         simpa using hset
       case measure=>simp[intOf]
   ·obtain rfl:m=0:=by omega
    have hf:vP w base g cap L X Y h cq D vq (.returned (.tuple #[])) wr:=
     ⟨zs,rfl,HZL.out,HZO.out,HRO.out,HTW.out,by have:=HV.out;rwa[Nat.pow_zero,Nat.mul_one] at this,by have:=HQH.out;rwa[Nat.pow_zero,Nat.mul_one,Nat.mul_one] at this⟩
    have HF:=Lib.hid hf;clear hf
    go_wp2
    go_end0
    exact HF.out
end
section
theorem Row.heap {w:World} {k:IntKind} {T base g n:Nat} {xs:List Nat} (h:Row w k T base g n xs) (hn:xs.length=n):w.heap[g]?=some (.cells (cl k xs).toArray T (0,0)):=by
 rcases h.own.2 with⟨h',_⟩|⟨g',cap',cur,h',hb,hg,hnc,hcm,hsz,htk⟩
 ·simp at h'
 ·simp only [Value.slice.injEq,Option.some.injEq,Addr.mk.injEq,and_true,true_and] at h'
  obtain⟨rfl,rfl⟩:=h'
  rw[hg,<-htk,List.take_of_length_le (by simp;omega)]
theorem Row.of_heap {w:World} {k:IntKind} {T base g n:Nat} {xs:List Nat} (hg:w.heap[g]?=some (.cells (cl k xs).toArray T (0,0))) (hn:xs.length=n) (hm:n<=maxLen) (hb:base<=g):Row w k T base g n xs:=by
 refine⟨?_,.inr ⟨g,n,_,rfl,hb,hg,by omega,hm,by simp[cQ,hn],?_⟩⟩
 ·simp[cQ]
 ·rw[List.take_of_length_le (by simp[cQ])]
theorem IR {w:World} {ad:Option Addr} {xs:List Nat} (r:Rd w .u32 ad xs) (g:Nat):0<(cl .u32 xs).length ->(some (⟨g,0,none⟩:Addr)=some ⟨g,0,none⟩)/\∃a,ad=some a/\∀j v,(cl .u32 xs)[j]?=some v->w.cell? (a.add j)=some v:=by
 intro h
 rw[cQ] at h
 obtain⟨b,off,rfl,_,hc⟩:=r.get h
 refine⟨rfl,_,rfl,fun j v hv=>?_⟩
 have hj:j<xs.length:=by
  have:=(List.getElem?_eq_some_iff.1 hv).1
  rwa[cQ] at this
 rw[mw hj] at hv
 injection hv with hv
 subst hv
 have hcj:=hc j hj
 unfold Addr.add
 split
 ·rename_i h0;subst h0;exact hcj
 ·exact hcj
theorem zG {w:World} {k:IntKind} {ad:Option Addr} {xs:List Nat} (r:Rd w k ad xs) (hp:0<xs.length) {g:Nat} (hg:w.heap.size<=g):nz ad g:=by
 intro b off e
 obtain⟨b',off',e',hb,_⟩:=r.get hp
 rw[e] at e'
 injection e' with e';injection e' with e1 _
 omega
theorem lT (D t:Nat):lg (List.replicate D 0) t=0:=by
 by_cases h:t<D
 ·rw[jY (by simp;exact h)];simp
 ·exact eS (by simp;omega)
theorem sQ (D:Nat):vl B32 (List.replicate D 0)=0:=by
 have:=jd B32 (xs:=List.replicate D 0) (ys:=[]) (fun t=>by rw[lT];rfl)
 rw[this];rfl
theorem lq:dl B32 0=0:=by
 rw[<-aB,gf];rfl
theorem Ep {w:World} {T base g n N:Nat} {xs:List Nat} (r:Row w .u32 T base g n xs) (ho:okb B32 xs) (hl:xs.length=n) (hn:n<=1099511627776) (hv:vl B32 xs=N):Dg w .u32 B32 (.slice (some ⟨g,0,none⟩) (dl B32 (vl B32 xs)) n) N:=by
 have hle:=cE aU ho
 have hrd:=r.rd.dg ho
 have hp:=r.parts
 rw[hv] at hle hrd ⊢
 exact⟨_,_,by rw[aB],hrd,by rw[aB];omega,hp.2.2.2,by rw[aB];omega,fun h=>by cases h⟩
def PC (w:World) (N M:Nat) (e:Ending) (w':World):Prop:=
 ∃v1 v2,e= .returned (.tuple #[v1,v2])/\Dg w' .u32 B32 v1 (N/M)/\Dg w' .u32 B32 v2 (if M=0 then 0 else N%M)/\Below w.heap.size w w'
set_option maxRecDepth 100000 in
theorem uP (v1 v2:Value) (N M:Nat) (w:World) (h1:Nt w v1 N) (h2:Nt w v2 M):CP 208 #[v1,v2] w (PC w N M):=by
 obtain⟨xs,ox,vx,ad1,cap1,rfl,r1,c1,m1,l1,n1⟩:=h1
 obtain⟨ys,oy,vy,ad2,cap2,rfl,r2,c2,m2,l2,n2⟩:=h2
 have rX:=r1.dg ox
 have rY:=r2.dg oy
 have dx:=cE aU ox
 have dy:=cE aU oy
 rw[vx] at rX dx;rw[vy] at rY dy
 have HX:=Lib.hid vx;have HY:=Lib.hid vy;clear vx vy
 obtain⟨i0,hi,hz0,hz1,hz2⟩:=info_parts Tryz.info167
 go_enter Tryz.func208,Tryz.ntmps208
 go_wp2_with fail
 refine(gt ad1 _ cap1 xs _ rfl r1 ox l1 c1 m1 n1).mono ?_
 rintro e w' ⟨rfl,hw⟩
 have hw:=hw.symm;subst hw
 go_wp2_with fail
 refine(gt ad2 _ cap2 ys _ rfl r2 oy l2 c2 m2 n2).mono ?_
 rintro e w' ⟨rfl,hw⟩
 have hw:=hw.symm;subst hw
 rw[HX.out,HY.out]
 obtain⟨d,hd⟩:∃d,d=dl B32 N:=⟨_,rfl⟩
 obtain⟨n,hn⟩:∃n,n=dl B32 M:=⟨_,rfl⟩
 rw[<-hd] at dx;rw[<-hn] at dy
 rw[<-hd,<-hn]
 have hdl:d<=1099511627776:=by omega
 have hnl:n<=1099511627776:=by omega
 have hd0:ad1=none->d=0:=fun h=>by have:=n1 h;omega
 have HD:=Lib.hid hd;have HN:=Lib.hid hn;have HD0:=Lib.hid hd0
 have RX:=Lib.hid rX;have RY:=Lib.hid rY
 clear hd hn hd0 rX rY r1 r2 c1 c2 n1 n2 l1 l2 HX HY dx dy ox oy m1
 by_cases hn0:n=0
 ·have hM:M=0:=by
   have h:=ie (cG aU M)
   rw[cF aU,aB,<-HN.out,hn0] at h
   simpa using h
  have HM:=Lib.hid hM
  have hnb:((n:Int) == 0)=true:=by simp;omega
  subst hn0
  clear hM
  go_wp2
  go_ret2
  rw[HM.out]
  exact⟨_,_,rfl,by rw[Nat.div_zero];exact Dg.zero _ _ _ _ (by unfold maxLen;omega) (fun _=>rfl),by rw[if_pos rfl];exact Dg.zero _ _ _ _ (by unfold maxLen;omega) (fun _=>rfl),Below.refl _ _⟩
 ·have hn1:1<=n:=by omega
  clear hn0
  go_wp2_with (at_make;refine wpList_make_full _ rfl _ _ 29 rfl w.heap.size 167 i0 (.int .u32 0) 1 Tryz.underlying29 hi hz0 hz1 .i64 .i64 _ _ d rfl rfl (by omega) (by omega) (by rw[hz2];omega) (by unfold maxLen;omega) (Nat.le_refl _) ?_)
  intro w1 hown hgrow
  have hrow:=Row.of_made hown
  have hb1:Below w.heap.size w w1:=(Below.refl _ _).grown hgrow (Nat.le_refl _) (fun k h=>by cases h)
  have hheap:=hrow.heap (by simp)
  have hcp:=IR (RX.out.below hb1) w.heap.size
  have hln:(cl .u32 (dg B32 N)).length =Nat.min d d:=by rw[cQ,aB,<-HD.out];exact(Nat.min_self d).symm
  have hlc:0+(cl .u32 (dg B32 N)).length <=(cl .u32 (List.replicate d 0)).length :=by rw[cQ,cQ,aB,<-HD.out];simp
  have HHEAP:=Lib.hid hheap;have HCP:=Lib.hid hcp;have HLN:=Lib.hid hln;have HLC:=Lib.hid hlc;have HB1:=Lib.hid hb1
  clear hown hgrow hrow hheap hcp hln hlc hb1
  go_wp2_with (refine wpList_copy_splice (o:=⟨some 20,_,_,_,_,_⟩) rfl (.tmp 18) (.tmp 19) 29 29 rfl 167 Tryz.underlying29 (by rw[hi];simp[hz1]) (some ⟨w.heap.size,0,none⟩) ad1 d d d cap1 rfl rfl w.heap.size 0 (cl .u32 (List.replicate d 0)) 167 HHEAP.out (cl .u32 (dg B32 N)) HLN.out HCP.out HLC.out Fb w.heap.size w HB1.out (Nat.le_refl _) ?_)
  intro w2 hh2 hb2
  have hsp:splice (cl .u32 (List.replicate d 0)) 0 (cl .u32 (dg B32 N))=cl .u32 (dg B32 N):=by
   unfold splice
   rw[List.take_zero,List.nil_append,List.drop_eq_nil_of_le (by rw[cQ,cQ,aB,<-HD.out];simp),List.append_nil]
  obtain⟨g,hg⟩:∃g,g=w.heap.size:=⟨_,rfl⟩
  have hh3:=hh2.out
  rw[hsp,<-hg] at hh3
  have hr2:=Row.of_heap (base:=w.heap.size) (n:=d) hh3 (by rw[aB];exact HD.out.symm) (by unfold maxLen;omega) (Nat.le_of_eq hg.symm)
  rw[<-hg]
  have hmax:max ((d:Int)-(n:Int)+1) 0=((d+1-n:Nat):Int):=by omega
  have HR2:=Lib.hid hr2;have HB2:=Lib.hid hb2;have HG:=Lib.hid hg
  obtain⟨D,hD⟩:∃D,D=d+1-n:=⟨_,rfl⟩
  rw[<-hD] at hmax
  have hDl:D<=1099511627776:=by omega
  have HDD:=Lib.hid hD
  clear hh2 hb2 hh3 hr2 hsp hg HHEAP HCP HLN HLC HB1 hD
  go_wp2_with (at_make;refine wpList_make_full _ rfl _ _ 29 rfl w2.heap.size 167 i0 (.int .u32 0) 1 Tryz.underlying29 hi hz0 hz1 .i64 .i64 _ _ D rfl rfl (by omega) (by omega) (by rw[hz2];omega) (by unfold maxLen;omega) (Nat.le_refl _) ?_)
  intro w3 hown hgrow
  have hrow:=Row.of_made hown
  have hb3:Below w2.heap.size w2 w3:=(Below.refl _ _).grown hgrow (Nat.le_refl _) (fun k h=>by cases h)
  have hgb:=HR2.out.parts.2.1
  have hne:w2.heap.size≠g:=by omega
  have hr3:=HR2.out.below hb3
  have hry:=(RY.out.below HB2.out).below hb3
  have hq:nB w3 w.heap.size g w2.heap.size D D (d+1-n) 0 (.slice (some ⟨w2.heap.size,0,none⟩) D D):=
   .inr ⟨rfl,hne,List.replicate D 0,by simp,fX bi _,hrow.rebase HB2.out.size,fun t ht=>lT D t,sQ D⟩
  have hred:=uU w.heap.size g d d n w2.heap.size D D cap2 ad2 (dg B32 N) (dg B32 M) _ w3 hr3 (cG aU N) hry (cG aU M)
   (zG RY.out (by rw[aB,<-HN.out];omega) (Nat.le_of_eq HG.out.symm)) (zG RY.out (by rw[aB,<-HN.out];omega) HB2.out.size)
   (by rw[aB];exact HD.out) (by rw[aB];exact HN.out) hn1 (by have:=(lD aU (n:=M) (by rw[<-HN.out];omega)).2;rw[<-HN.out] at this;omega) (by omega) (by omega) (by have:=HDD.out;omega) hq
  rw[cF aU,cF aU] at hred
  have hM0:¬M=0:=fun h0=>by have:=HN.out;rw[h0,lq] at this;omega
  have HRED:=Lib.hid hred;have HM0:=Lib.hid hM0
  have HB3:=Lib.hid (HB2.out.trans (hb3.mono HB2.out.size))
  have hsz3:=Lib.hid hb3.size
  clear hown hgrow hrow hb3 hgb hne hr3 hry hq hred hM0 HR2
  go_wp2_with fail
  refine(HRED.out).mono ?_
  rintro e w4 ⟨zs,rfl,hzl,hzo,hro,htw,hv,hqq⟩
  have hb4:=HB3.out.trans (htw.below (B:=w.heap.size) (Nat.le_of_eq HG.out.symm) HB2.out.size)
  rcases hqq with hbad|⟨_,hne,qs,hql,hqo,hqr,hqz,hqv⟩
  ·exact absurd hbad (by simp)
  ·have HQ:=Lib.hid (Ep hqr hqo hql hDl hqv)
   have HR:=Lib.hid (Ep hro hzo hzl hdl hv)
   have h1:=gt (some ⟨w2.heap.size,0,none⟩) D D qs w4 hql.symm hqr.rd hqo (by omega) (by omega) (by unfold maxLen;omega) (fun h=>by cases h)
   have h2:=gt (some ⟨g,0,none⟩) d d zs w4 hzl.symm hro.rd hzo (by omega) (by omega) (by unfold maxLen;omega) (fun h=>by cases h)
   have H1:=Lib.hid h1;have H2:=Lib.hid h2;have HB4:=Lib.hid hb4
   clear h1 h2 hzl hzo hro htw hv hql hqo hqr hqz hqv hb4 hne
   go_wp2_with fail
   refine(H1.out).mono ?_
   rintro e w' ⟨rfl,hw⟩
   have hw:=hw.symm;subst hw
   go_wp2_with fail
   refine(H2.out).mono ?_
   rintro e w' ⟨rfl,hw⟩
   have hw:=hw.symm;subst hw
   go_wp2
   go_ret2
   exact⟨_,_,rfl,HQ.out,by rw[if_neg HM0.out];exact HR.out,HB4.out⟩
end
section
theorem Row.take {w:World} {k:IntKind} {T base g cap:Nat} {xs:List Nat} (h:Row w k T base g cap xs) (m:Nat) (hm:m<=xs.length):Row w k T base g cap (xs.take m):=by
 rcases h.own.2 with⟨h',_⟩|⟨g',cap',cur,h',hb,hg,hnc,hcm,hsz,htk⟩
 ·simp at h'
 ·simp only [Value.slice.injEq,Option.some.injEq,Addr.mk.injEq,and_true,true_and] at h'
  obtain⟨rfl,rfl⟩:=h'
  have hl:(xs.take m).length =m:=by simp;omega
  refine⟨?_,.inr ⟨g,cap,cur,rfl,hb,hg,by omega,hcm,hsz,?_⟩⟩
  ·rw[cQ,Nat.mul_one]
  ·have e:cl k (xs.take m)=(cl k xs).take m:=by simp[cl,List.map_take]
   rw[hl,e,<-htk,List.take_take]
   congr 1
   omega
theorem LA {xs:List Nat} {N:Nat} (ho:okb B32 xs) (hv:vl B32 xs=N):xs.take (dl B32 N)=dg B32 N:=by
 have hle:=cE aU ho
 rw[hv] at hle
 have hd:=Nat.lt_of_lt_of_le (ie (cG aU N)) (Nat.le_refl _)
 rw[cF aU,aB] at hd
 have hz:=qA (xs:=xs) (k:=dl B32 N) (by rw[hv];exact hd)
 have ht:=(wA aU ho hle (fun h0=>by
  have hs:=lD aU (n:=N) h0
  intro h1
  have hlt:vl B32 xs<B32^(dl B32 N-1):=C1 ho (fun t ht=>by
   by_cases e:t=dl B32 N-1
   ·rw[e];exact h1
   ·exact hz t (by omega))
  rw[hv] at hlt
  have:=Nat.mul_le_mul_right (B32^(dl B32 N-1)) hs.2
  rw[Nat.succ_mul,Nat.zero_mul,Nat.zero_add] at this
  have h5:=Nat.le_add_left (lg (dg B32 N) (dl B32 N-1)*B32^(dl B32 N-1)) (N%B32^(dl B32 N-1))
  rw[<-hs.1] at h5
  omega) hz)
 rw[ht.1,hv]
theorem DB (n cp2:Nat) (ad:Option Addr) (ys:List Nat) (w:World) (ry:Rd w .u32 ad ys) (oy:okb B32 ys) (hn:n=ys.length) (hn1:1<=n) (hnl:n<=1099511627777):
 CP 131 #[.slice none 0 0,.slice ad n cp2,.slice none 0 0] w fun e w'=>e= .returned (.tuple #[])/\w'=w:=by
 have hpair:=tM ad n cp2 ys (n-1) w hn ry oy (by omega) (by omega)
 rw[show((n-1:Nat):Int)=(n:Int)-1 from by omega] at hpair
 have HPAIR:=Lib.hid hpair
 clear hpair hn ry
 go_enter Tryz.func131,Tryz.ntmps131
 go_wp2_with fail
 refine(HPAIR.out).mono ?_
 rintro e w' ⟨rfl,hw⟩
 have hw:=hw.symm;subst hw
 go_wp2
 go_loopw [8] (fun i wr=>i= .int .i64 (0-(n:Int))/\wr=w) (fun _ _=>0)
 case atStart=>exact⟨by simp,rfl⟩
 case round=>
  obtain⟨rfl,hw⟩:=hrel
  have hw:=hw.symm;subst hw
  go_wp2
  go_end0
  exact⟨rfl,rfl⟩
def gm (a:Act) (w:World):Nat:=
 match a.tmps.getD 6 undef with
 | .slice (some ad) n _=>match w.heap[ad.block]? with
  |some (.cells cur _ _)=>vl B32 ((cur.toList.take n).map (fun v=>(intOf v).toNat))
  |_=>0
 |_=>0
theorem Ef {a:Act} {w:World} {T base g cap B:Nat} (h:Row w .u32 T base g cap (dg B32 B)) (e:a.tmps.getD 6 undef= .slice (some ⟨g,0,none⟩) (dl B32 B) cap):gm a w=B:=by
 rcases h.own.2 with⟨h',_⟩|⟨g',cap',cur,h',hb,hg,hnc,hcm,hsz,htk⟩
 ·simp at h'
 ·simp only [Value.slice.injEq,Option.some.injEq,Addr.mk.injEq,and_true,true_and] at h'
  obtain⟨rfl,rfl⟩:=h'
  unfold gm
  rw[e]
  simp only [hg]
  rw[aB,Nat.mul_one] at htk
  rw[htk]
  have:(cl .u32 (dg B32 B)).map (fun v=>(intOf v).toNat)=dg B32 B:=by simp[cl,intOf,Function.comp_def]
  rw[this,cF aU]
end
section
theorem yg {P:Program} {a:Act} {w:World} {Q:Exit->Act->World->Prop} {c rest:Code} (l:Nat) (J:Act->World->Prop) (μ:Act->World->Nat) (hf:findLabel c l=some (Code.skip.seq rest))
 (pass:∀a w,J a w->rest.wp P (Exit.jump l (fun a' w'=>J a' w'/\μ a' w'<μ a w) Q) a w)
 (first:(∀a w,J a w->rest.wp P (Exit.jump l J Q) a w)->c.wp P (Exit.jump l J Q) a w):(Code.scope c).wp P Q a w:=
 wp_scope_jumps l J μ hf (first (fun a w h=>Code.wp_mono (fun e a' w'=>by cases e <;> first|exact fun h=>h|exact fun h=>⟨h.1,h.2.1⟩) (pass a w h))) (fun a w h=>wp_seq (wp_skip (pass a w h)))
structure GI (w w':World) (N M A B g h ca cb:Nat):Prop where
 ne:g≠h
 pos:0<B
 ra:Row w' .u32 167 w.heap.size g ca (dg B32 A)
 rb:Row w' .u32 167 w.heap.size h cb (dg B32 B)
 gcd:Nat.gcd A B=Nat.gcd N M
 la:dl B32 A<=1099511627776
 lb:dl B32 B<=1099511627776
 below:Below w.heap.size w w'
def GJ (v1 v2:Value) (w:World) (N M:Nat) (a:Act) (w':World):Prop:=
 ∃(A B g h ca cb:Nat) (u7 u8 u9 u10 u11 u12 u13 u14 u15 u16 u17 u18 u19 u20 u21 u22 u23 u24:Value),
  a={tmps:=#[v1,v2,undef,undef,.slice none 0 0,.slice (some ⟨g,0,none⟩) (dl B32 A) ca,.slice (some ⟨h,0,none⟩) (dl B32 B) cb,u7,u8,u9,u10,u11,u12,u13,u14,u15,u16,u17,u18,u19,u20,u21,u22,u23,u24],defers:=[]}/\GI w w' N M A B g h ca cb
theorem KA {w:World} {v:Value} {N:Nat} (h:Nt w v N):dl B32 N<=1099511627776:=by
 obtain⟨xs,ox,rfl,ad,cap,rfl,r,c,m,l,n⟩:=h
 have:=cE aU ox
 omega
set_option maxRecDepth 100000 in
theorem ov (v1 v2:Value) (N M:Nat) (w:World) (h1:Nt w v1 N) (h2:Nt w v2 M):CP 64 #[v1,v2] w (kD w (Nat.gcd N M)):=by
 have HH1:=Lib.hid h1;have HH2:=Lib.hid h2
 clear h1 h2
 go_enter Tryz.func64,Tryz.ntmps64
 go_wp2
 refine yg 0 (GJ v1 v2 w N M) gm rfl ?_ ?_
 ·rintro a w' ⟨A,B,g,h,ca,cb,u7,u8,u9,u10,u11,u12,u13,u14,u15,u16,u17,u18,u19,u20,u21,u22,u23,u24,rfl,hI⟩
  have hred:=uU w.heap.size g ca (dl B32 A) (dl B32 B) g 0 (dl B32 A+1) cb (some ⟨h,0,none⟩) (dg B32 A) (dg B32 B) (.slice none 0 0) w' hI.ra (cG aU A) hI.rb.rd (cG aU B)
   (fun b off e=>by injection e with e;injection e with e _;rw[<-e];exact fun h=>hI.ne h.symm) (fun b off e=>by injection e with e;injection e with e _;rw[<-e];exact fun h=>hI.ne h.symm)
   (aB _ _).symm (aB _ _).symm (eU aU hI.pos) (by have:=(lD aU (n:=B) (eU aU hI.pos)).2;omega) (by have:=hI.la;omega) (by have:=hI.lb;omega) (by omega) (.inl rfl)
  rw[cF aU,cF aU] at hred
  have HRED:=Lib.hid hred;have HI:=Lib.hid hI
  have hmu:=Lib.hid (Ef (a:={tmps:=#[v1,v2,undef,undef,.slice none 0 0,.slice (some ⟨g,0,none⟩) (dl B32 A) ca,.slice (some ⟨h,0,none⟩) (dl B32 B) cb,u7,u8,u9,u10,u11,u12,u13,u14,u15,u16,u17,u18,u19,u20,u21,u22,u23,u24],defers:=[]}) hI.rb rfl)
  rw[hmu.out]
  clear hred hI
  go_wp2_with fail
  refine(HRED.out).mono ?_
  rintro e w4 ⟨zs,rfl,hzl,hzo,hro,htw,hv,_⟩
  have hca:=hro.parts
  have hle:=cE aU hzo
  rw[hv] at hle
  have hrow2:=hro.take (dl B32 (A%B)) hle
  rw[LA hzo hv] at hrow2
  have hrb:=HI.out.rb.of_block (htw.block h (fun e=>HI.out.ne e.symm) (fun e=>HI.out.ne e.symm))
  have hcut:=gt (some ⟨g,0,none⟩) (dl B32 A) ca zs w4 hzl.symm hro.rd hzo (by rw[hzl];exact HI.out.la) hca.2.2.1 hca.2.2.2 (fun h=>by cases h)
  unfold om at hcut
  rw[hv] at hcut
  have hbel:=HI.out.below.trans (htw.one.below (B:=w.heap.size) hca.1)
  have hg:=HI.out.gcd
  rw[Nat.gcd_comm,Nat.gcd_rec] at hg
  have hrl:A%B<B:=Nat.mod_lt _ HI.out.pos
  have hld:dl B32 (A%B)<=1099511627776:=by have:=HI.out.la;omega
  obtain⟨r,hr⟩:∃r,r=A%B:=⟨_,rfl⟩
  rw[<-hr] at hrow2 hcut hg hrl hld
  have HCUT:=Lib.hid hcut;have HROW:=Lib.hid hrow2;have HRB:=Lib.hid hrb;have HBEL:=Lib.hid hbel;have HGC:=Lib.hid hg;have HRL:=Lib.hid hrl;have HLD:=Lib.hid hld
  clear hr hca hle hcut hrow2 hrb hbel hg hrl hld hzl hzo hro htw hv
  by_cases hz:r=0
  ·subst hz
   have HC:=Lib.hid lq
   go_wp2_with fail
   refine(HCUT.out).mono ?_
   rintro e w' ⟨rfl,hw⟩
   have hw:=hw.symm;subst hw
   rw[HC.out]
   go_wp2
   simp only [Exit.jump]
   go_ret
   have hb0:B=Nat.gcd N M:=by have:=HGC.out;rwa[Nat.gcd_zero_left] at this
   refine⟨_,rfl,?_,HBEL.out⟩
   have hs:=HRB.out.sq (by rw[aB];exact HI.out.lb)
   rw[aB] at hs
   rw[<-hb0]
   exact hs
  ·have hp:0<dl B32 r:=eU aU (by omega)
   have hr0:0<r:=by omega
   clear hz
   go_wp2_with fail
   refine(HCUT.out).mono ?_
   rintro e w' ⟨rfl,hw⟩
   have hw:=hw.symm;subst hw
   go_wp2
   go_step3
   refine⟨rfl,⟨B,r,h,g,cb,ca,_,_,_,_,_,_,_,_,_,_,_,_,_,_,_,_,_,_,rfl,⟨fun e=>HI.out.ne e.symm,hr0,HRB.out,HROW.out,?_,HI.out.lb,HLD.out,HBEL.out⟩⟩,?_⟩
   ·rw[Nat.gcd_comm];exact HGC.out
   ·rw[Ef HROW.out rfl];exact HRL.out
 ·intro pass
  go_wp2_with fail
  refine(tv v1 N w HH1.out).mono ?_
  rintro e w1 ⟨va,rfl,ha,hb1⟩
  have HA:=Lib.hid ha;have HB1:=Lib.hid hb1
  clear ha hb1
  go_wp2_with fail
  refine(tv v2 M w1 (HH2.out.below HB1.out)).mono ?_
  rintro e w2 ⟨vb,rfl,hb,hb2⟩
  have hnt:=HH1.out
  have hmt:=HH2.out
  have hln:dl B32 N<=1099511627776:=KA hnt
  have hlm:dl B32 M<=1099511627776:=KA hmt
  have HLN:=Lib.hid hln;have HLM:=Lib.hid hlm
  have HBB:=Lib.hid (HB1.out.trans (hb2.mono HB1.out.size))
  have HB2:=Lib.hid hb2
  have hda:=(HA.out.sq (by rw[aB];exact hln)).below hb2
  have HDA:=Lib.hid (show Dg w2 .u32 B32 va N from hda)
  clear hnt hmt hln hlm hb2 hda
  by_cases hM:M=0
  ·subst hM
   have hvb:∃ad cb,vb= .slice ad 0 cb:=by
    rcases hb.shape with⟨rfl,_⟩|⟨h,cb,rfl,_⟩
    ·exact⟨_,_,rfl⟩
    ·exact⟨_,cb,by rw[aB,lq]⟩
   obtain⟨adb,cb,rfl⟩:=hvb
   clear hb
   go_wp2
   simp only [Exit.jump]
   go_ret
   exact⟨_,rfl,by rw[Nat.gcd_zero_right];exact HDA.out,HBB.out⟩
  ·have hpos:0<M:=by omega
   have hdp:0<dl B32 M:=eU aU hpos
   rcases hb.shape with⟨rfl,h0⟩|⟨h,cb,rfl,hrb⟩
   ·have:=aB B32 M
    rw[h0] at this
    simp at this
    omega
   ·rw[aB]
    have HRB:=Lib.hid hrb
    clear hb hrb
    rcases HA.out.shape with⟨rfl,h0⟩|⟨g,ca,rfl,hra⟩
    ·have hN:N=0:=by
      have:=cF aU N
      rw[h0] at this
      exact this.symm
     have hred:=DB (dl B32 M) cb (some ⟨h,0,none⟩) (dg B32 M) w2 HRB.out.rd (cG aU M) (aB _ _).symm (by omega) (by have:=HLM.out;omega)
     have hcut:=gt none 0 0 [] w2 rfl (Rd.nil _ _ _) (mn _) (by simp) (by simp) (by unfold maxLen;omega) (fun _=>rfl)
     have hcut':Hid (CP 132 #[.slice none 0 0] w2 fun e w'=>e= .returned (.slice none 0 0)/\w'=w2):=by
      unfold Hid
      refine hcut.mono ?_
      rintro e w' ⟨rfl,rfl⟩
      exact⟨by rw[show vl B32 []=0 from rfl,lq],rfl⟩
     have HRED:=Lib.hid hred;have HN:=Lib.hid hN
     clear hred hcut h0 hN
     go_wp2
     go_step3
     go_wp2_with fail
     refine(HRED.out).mono ?_
     rintro e w' ⟨rfl,hw⟩
     have hw:=hw.symm;subst hw
     go_wp2_with fail
     refine(hcut'.out).mono ?_
     rintro e w' ⟨rfl,hw⟩
     have hw:=hw.symm;subst hw
     go_wp2
     simp only [Exit.jump]
     go_ret
     refine⟨_,rfl,?_,HBB.out⟩
     have hs:=HRB.out.sq (by rw[aB];exact HLM.out)
     rw[aB] at hs
     rw[HN.out,Nat.gcd_zero_left]
     exact hs
    ·rw[aB]
     have hgi:GI w w2 N M N M g h ca cb:=by
      have h1:=hra.parts
      have h2:=HRB.out.parts
      exact⟨by omega,hpos,hra.below HB2.out,HRB.out.rebase (by have:=HB1.out.size;omega),rfl,HLN.out,HLM.out,HBB.out⟩
     have HGI:=Lib.hid hgi
     clear hra hgi
     go_wp2
     go_step3
     simp only [Exit.then]
     apply_assumption
     exact pass _ _ ⟨N,M,g,h,ca,cb,_,_,_,_,_,_,_,_,_,_,_,_,_,_,_,_,_,_,rfl,HGI.out⟩
end
end
end Go.Proofs.YtgdpkknapcgcbaaGreatDoor
